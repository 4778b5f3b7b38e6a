import PyProof.Rows.All
import Wide.All
import OpenK.AllK
import Wide.FinOn
import Lean
import KE.KNestM
import PyProof.EqAt
import PyProof.EqKinds
import PyProof.TupleCall
import PyProof.EnumMake
import PyProof.Draws
import KE.KDictList
import KE.KTryMore
import KE.KEqDict
import PyProof.ExcInit
import PyProof.InstStoreFacts
import KE.KSortTup
import PySem.Challenge.RW_fallcounts_k76_whole_ends
set_option Elab.async false
set_option linter.all false
set_option maxRecDepth 100000
set_option maxHeartbeats 8000000
open PySem.W renaming Frag→gV,nsIn→Od,mg_none_of→Ov,fnOf→Oy,kla_obj→OC,keepIn→OF,kia_one→OL,codeHdIn→O1,envX→O8,boot_heap→Pb,kitOne→Pn,tabObj→Po,cellsFrom_some→PN,mg_of→Ql,codeIn→Qr,callWith_K→QX,codeHd_of_K→RF,methodObj→RT,kitx_dict→RW,instObj→Sj,boot_drawn→SA,lookIn→SG,KdlSrc→SN,boot_toks→SS,SharedT→TN,OpenLaw→TQ
open PySem renaming wpAny_bind→k3,wpAny_pure→td,Value→NB,Shared→NF,boot_len→NT,Program→NW,Around→Om,World→Oo,wpAny_newObj_type→Oq,SetTable→Ox,Builtin→OJ,wpAny_holding→OR,wpAny_mono→OW,wpAny_call_entry→O0,sizeLine_eq→O5,wpAny_callSpecial?_slot→Pc,codeAny_builtin→Pd,codeAny_mono→Pg,wpAny_setState_of→Pl,wpAny_truthy_bool→PB,NameKind→PM,wpAny_passesOwn→P8,wpAny_standAt→Qe,mem_of_lookup→Qf,wpAny_askSetting→Qn,wpAny_Call_Name_kw→Qv,wpAny_pyIter_tuple→Qw,lookup_relabel_local→QI,FuncData→QW,codeAny_of_tree→QZ,wpAny_field→Rc,wpAny_pyIter_enum→Rh,wpAny_typeOf→Rq,Scope→Ru,wpAny_loadName_local→Rw,wpAny_newFunctionEnv→Rx,wpAny_newList→Rz,wpAny_execs_nil→RA,wpAny_setField_rec→RN,wpAny_runValue→RQ,wpAny_seqItems→RR,wpAny_Return_some→RU,wpAny_assign_Name→RV,wpAny_call→RY,Arguments→R0,wpAny_pyIter_list→R3,wpAny_noRaise→R7,plainId_quiet→R8,wpAny_of_eq→R9,noFill_tuple_add→Sf,wpAny_forIn_list→Si,seqIndex_neg→Sl,wpAny_loadPart'→Sn,wpAny_ite_split→Sy,wpAny_Name→SD,seqIndex_of→SO,ItemsOf→SQ,seq_tuple_add→SU,IsPart→SV,wpAny_attempt→S0,BindsTo→Tc,wpAny_rule→Td,concat_meets→Tf,codeAny_loop→Tg,OsState→Tp,PassesOwn→Tr,wpAny_noted→Ts,wpAny_load→Tz,typeIs_int→TF,call_meets→TJ,call→TL,Operator→TV,IsEnum→TY,Fin→T1,Walks→T4,IsRange→T5,Keyword→T6
open PySem.Heap renaming get?_push_of_some→k5,lt_size→tv,get?_push_size→NH,SameBut→QA,size_push→Rl,get?_update_self→Rr,FunFrames→SI
open List renaming mem_cons_of_mem→ox,range→ND,mem_cons_self→NG,mem_append_right→NI,length_map→NJ,getElem?_eq_getElem→NM,getElem?_append_left→NN,mem_cons→NQ,getElem?_append_right→NR,getElem?_map→NU,map_cons→NV,pairwise_iff_getElem→NX,mem_singleton→NY,all_eq_true→NZ,replicate→N1,length_append→N2,mem_range→N3,size_toArray→N5,pairwise_append→N9,length_take→Oa,mem_of_getElem?→Ob,mem_append→Oe,getElem?_eq_some_iff→Og,drop_eq_getElem_cons→Oh,mem_map→Oi,append_assoc→Oj,getElem?_eq_none→Ot,pairwise_cons→Ou,map_congr_left→Ow,mem_filter→OA,getD_eq_getElem?_getD→OE,map_map→ON,length_cons→OO,filter_cons→OP,pairwise_singleton→OS,pairwise_map→OT,take_of_length_le→OX,getElem?_eq_none_iff→OY,eq_nil_of_length_eq_zero→O2,getElem_of_mem→O6,length_filter_le→O_,getElem?_range→Pj,filter_eq_self→Pk,nodup_cons→Pp,filter_filter→Pq,range_eq_range'→Pt,filter_congr→PC,nil_append→PJ,range_succ→PL,drop_eq_nil_of_le→PQ,not_mem_nil→PX,any_eq_true→PY,map_nil→PZ,take_append_drop→P0,take_succ_eq_append_getElem→P6,mem_of_mem_take→P7,append_nil→P9,ext_getElem?→Qc,getElem?_replicate→Qg,all_cons→Qh,replicate_succ→Qi,take_append_of_le_length→Qo,getElem_mem→Qp,getElem?_drop→Qx,getElem?_take→Qy,any_cons→QE,perm_append_singleton→QG,mem_append_left→QH,drop_drop→QK,length_drop→QL,ext_getElem→QM,prefix_refl→QN,map_append→Q0,length_eq_zero_iff→Q1,filter_append→Q4,getElem?_set_self→Q5,drop_of_length_le→Q8,pairwise_lt_range→Q_,filter_eq_nil_iff→Ra,any_eq_false→Rb,getElem_take→Ri,length_range→Rj,flatMap_cons→Rk,length_replicate→Rp,mem_iff_getElem→Ry,of_mem_zip→RC,range'→RD,length_reverse→RG,take_sublist→RZ,flatten_cons→R1,Pairwise→Sa,sum_cons→Sd,cons_append→Sg,foldl_cons→Sm,sum_append→Sr,take_left'→Su,Perm→Sw,drop_zero→SJ,all_nil→Ti,foldl→TH,take→T3,set→T8
open Nat renaming le_refl→NC,ne_of_lt→NS,le_trans→N4,lt_of_lt_of_le→N7,lt_irrefl→OH,zero_le→OU,lt_or_eq_of_le→Pe,lt_succ_self→Ph,zero_add→Pz,lt_succ_of_lt→Qa,not_lt→Qb,ne_of_gt→Qd,le_of_lt_succ→QF,le_of_lt→QP,lt_or_ge→QT,not_lt_zero→RE,mod_lt→R5,lt_trans→Sq,min_eq_left→Sx,add_assoc→S_,le_of_eq→Th,sub_self→Tj,beq→Tu,le_succ→Tv,blt→T7
open Eq renaming trans→NK
open Array renaming length_toList→NO,getElem?_toList→NP,getElem_mem→N8,mem_toList_iff→Pf,getElem?_eq_getElem→P5,getElem_extract→QB,getElem?_eq_none→Q7,append_assoc→RJ,toList_push→R4,toList_map→Sh
open PyProof.Rows renaming SortSt→N0,Keyed→Of,slot_tuple_getitem→OB,boot_sum→OD,boot_tuple→Px,callWith_type1→PF,SortKind→Qz,IntsAre→Rf,boot_int→Rt,listUpdate_at→R_,AllBare→Sk,seqEpoch_at→SR,step_dedup→TM
open PySem.Challenge renaming pw_fallcounts_k76_whole_ends→N6,rw_fallcounts_k76_whole_ends→Pa
open Bool renaming and_eq_true→N_,false_ne_true→Oc,eq_iff_iff→PK,false_eq_true→RM,and_comm→Se,and_true→SY
open PySem.PassesOwn renaming never→Ol
open Option.some renaming inj→Oz
open PySem.SetTable renaming below→OG,bits→OI,runEnd→OZ,insertAt→O9,leap→Py,turns→P4,Probe→Rm,grown→Ro,advance→Rv,sizeAbove→RL,fresh→SK,fill→Ta
open PySem.F renaming called_set→OM,slot_tuple_iterator_next→PV,args_tuple_add_2→QQ,entry_tuple_add→QY,slot_tuple_add→Q6,called_tuple→SH
open PySem.SeqAt renaming EqAt→OQ,RcNeAt→SX
open Int renaming mul_le_mul_of_nonneg_right→OV,le_refl→P2,emod_nonneg→RH,natCast_add→RI,emod_lt_of_pos→RO,lt_of_lt_of_le→RP,pow_pos→Sb,zero_add→Sz,le_of_lt→To
open PySem.Builtin.Tuple renaming tupleExact→O7
open PySem.Value renaming ref→Pr,int→Qm,none→Qq,type→QC,bool→Tx,str→TX
open PySem.Around renaming under_plainId→Pu
open PySem.Builtin.Range renaming rangeSize→Pw
open ForInStep renaming yield→PH
open PySem.W.Fast renaming tw5923862056798008813→PR
open PySem.Calls renaming Name_function_global→PU,spliced_cons→Qu,loadGlobal_global→QV,spliced_nil→RX
open PySem.Builtin.Slice renaming slicePlaces→P1,sliceAdjust→QJ
open Option renaming isSome_iff_exists→P_,map_eq_some_iff→Qt,map_some→So,map→Tw
open PySem.NameKind renaming free→Qj
open PySem.Heap.SameBut renaming update→Qk
open PySem.Obj renaming mapSeq→Qs
open False renaming elim→QD
open PySem.Builtin.Int renaming intBits→QO
open PySem.Builtin.List renaming listTooLong→QR
open List.Pairwise renaming imp_of_mem→QU,nil→Rg
open PyProof.Rows.F renaming plain_set_update_loop→Q3
open PySem.SetTable.layClean renaming free→Q9
open PySem.Code renaming quiet_builtin→RK
open PySem.SetTable.probe renaming go→R6
open List.cons renaming injEq→Ss
open Nat.succ renaming inj→Sv
open True renaming intro→SE
open Or renaming inl→SW,inr→Tt
open PyProof.Rows.SortSt renaming mk'→Te
open PySem.pickOrder renaming go→Tn
open Ne renaming symm→Tq
open Sum renaming inl→TR,inr→TU
open PySem.Expr renaming Name→TZ
namespace L2.FE
open PySem PySem.W PySem.Calls
noncomputable def Du:List Obj->BT->Nat->Option BT
 | [],t,_=>some t
 | o::r,t,n=>match ((t.ins n o).get n).isSome with
  | true=>Du r (t.ins n o) (n+1)
  | false=>none
theorem uQ {life:Life}:∀{r:List Obj}{t T:BT}{n:Nat}{a:Array Obj},Du r t n=some T->absHeap t n life=⟨a,life⟩->absHeap T (n+r.length) life=⟨a++r.toArray,life⟩
 | [],t,T,n,a,h,e=>by cases h;simpa using e
 | o::r,t,T,n,a,h,e=>by
  unfold Du at h
  cases g:((t.ins n o).get n).isSome with
  | false=>rw[g] at h;cases h
  | true=>
   rw[g] at h
   have x:absHeap (t.ins n o) (n+1) life=⟨a.push o,life⟩:=by rw[absHeap_ins g,e];rfl
   have:=uQ h x
   rw[OO,show n+(r.length+1)=n+1+r.length by omega,this]
   simp
noncomputable def y_ (p:NW) (w:Oo) (n₀:Nat) (ann:Option NB):Nat->TN->Thread->Option TN
 | 0,_,_=>none
 | n+1,s,t=>match through t with
  | true=>some s
  | false=>match PySem.W.Fast.tw6613529449190102663 n₀ ann t with
   | false=>none
   | true=>match PySem.W.Fast.tw10156331382660048174 (PySem.W.Fast.tw11892475500146522536 PySem.W.Fast.tw14364793385576792824) p w s t with
    | some (s',t')=>y_ p w n₀ ann n s' t'
    | none=>none
theorem wd {p:NW}{w:Oo}{n₀:Nat}{ann:Option NB}:∀{n:Nat}{s r:TN}{t:Thread},y_ p w n₀ ann n s t=some r->topRun treeTable p w n₀ ann n s.abs t=some r.abs
 | 0,_,_,_,h=>by cases h
 | n+1,s,r,t,h=>by
  unfold y_ at h
  unfold topRun
  cases ht:through t with
  | true=>rw[ht] at h;cases h;rfl
  | false=>
   rw[ht,<- PySem.W.Fast.te6613529449190102663] at h
   cases hk:stepOk n₀ ann t with
   | false=>simp only[hk] at h;cases h
   | true=>
    simp only[hk] at h
    rw[<- PySem.W.Fast.te10156331382660048174,<- PySem.W.Fast.te11892475500146522536,<- PySem.W.Fast.te14364793385576792824] at h
    cases hs:stepT (denote treeTable) p w s t with
    | none=>rw[hs] at h;cases h
    | some x=>obtain⟨s₂,t₂⟩:=x;rw[hs] at h;rw[stepT_spec hs];exact wd h
noncomputable def qX (p:NW) (w:Oo) (N:Nat) (os:Tp):Option TN:=
 match (Pb w.params).isNs mainGlobals with
 | true=>(Du (Pb w.params).objs.toList .nil 0).bind fun T=>y_ p w (Pb w.params).objs.size ((Pb w.params).nsMap mainGlobals (Str.ofString "__annotations__")) N ⟨T,(Pb w.params).objs.size,(Pb w.params).life,#[],SA,SS,os⟩ (topStub p)
 | false=>none
noncomputable def CS (p:NW) (w:Oo) (s₁:NF):Bool:=staticsOk (PR p.main.body) (Pb w.params) s₁.heap&&namesBound p s₁.heap&&gensDone s₁&&laidKept (Pb w.params) s₁.heap
theorem An {p q:NW}{loose:List Str}{Xt:NF->Bool}{α:Type}{Yf:NF->α}{Ya:Oo->α}{N:Nat} (hN:Nat.ble 600 N=true) (e:opening p=plainProg p.main.scope.names) (f:∀s,fenceModules? p s=some s)
  (h1:∀(w:Oo) (os:Tp),(qX p w N os).map (fun s=>CS p w s.abs)=some true)
  (h2:∀(w:Oo) (os:Tp),(qX p w N os).map (fun s=>PySem.W.Fast.tw4187177175401517315 q loose (PR p.main.body) Xt true s.abs)=some (openGood q loose))
  (h3:∀(w:Oo) (os:Tp),(qX p w N os).map (fun s=>Yf s.abs)=some (Ya w)):LeftO p q loose Xt Yf Ya N:=fun w=>by
 obtain⟨s,hs,e'⟩:=Qt.mp (boot_open e hN f w)
 obtain⟨H,gs,d,k,os⟩:=s
 obtain⟨rfl,rfl,rfl,rfl⟩:H=Pb w.params/\gs=_/\d=SA/\k=SS:=by simpa using e'
 obtain⟨r,hr,l1⟩:=Qt.mp (h1 w os)
 obtain⟨r2,hr2,l2⟩:=Qt.mp (h2 w os)
 obtain⟨r3,hr3,l3⟩:=Qt.mp (h3 w os)
 obtain rfl:r=r2:=Oz (hr.symm.trans hr2)
 obtain rfl:r=r3:=Oz (hr.symm.trans hr3)
 unfold CS at l1
 rw[<- PySem.W.Fast.te5923862056798008813] at l1
 rw[<- PySem.W.Fast.te4187177175401517315,<- PySem.W.Fast.te5923862056798008813] at l2
 unfold qX at hr
 cases hn:(Pb w.params).isNs mainGlobals with
 | false=>rw[hn] at hr;cases hr
 | true=>
  rw[hn] at hr
  obtain⟨T,hT,hr⟩:=Option.bind_eq_some_iff.mp hr
  have z:=uQ (life:=(Pb w.params).life) (n:=0) (a:=#[]) hT rfl
  have z':absHeap T (Pb w.params).objs.size (Pb w.params).life=Pb w.params:=by
   rw[Pz,NO] at z
   rw[z]
   simp
  have hr:=wd hr
  have st:(TN.mk T (Pb w.params).objs.size (Pb w.params).life #[] SA SS os).abs=⟨Pb w.params,#[],SA,SS,os⟩:=by
   show NF.mk _ _ _ _ _=_
   rw[z']
  rw[st] at hr
  unfold openEnds
  rw[hs]
  show Tw _ (topFrom treeTable p w N _)=_
  have t:topFrom treeTable p w N ⟨Pb w.params,#[],SA,SS,os⟩=some r.abs:=by
   unfold topFrom
   dsimp only
   rw[hn]
   rw[hr]
   show(match staticsOk (importedModules p.main.body) (Pb w.params) r.abs.heap&&namesBound p r.abs.heap&&gensDone r.abs&&laidKept (Pb w.params) r.abs.heap with | true=>_ | false=>_)=_
   rw[l1]
  rw[t]
  show some (openSeen q loose (importedModules p.main.body) Xt true r.abs,Yf r.abs)=_
  rw[l2,l3]
noncomputable def viewOf (p:NW) (keep:List Nat):NW:={ p with main:={ p.main with body:=keep.filterMap fun i=>p.main.body[i]? } }
end L2.FE
section
open PySem PySem.W PyProof.Rows
noncomputable def FC.Q:NW:=L2.FE.viewOf N6 [1,2,3,4,5,6,8,9,10,12,13,14,15,16,17,19,20,22,23,24,25,26,27,28,29,30,31,33,34,35,36,37,38,39,41,42,43,44,45,46,47,48,49,50,51,52,53,54,56,57,58,59,60,61,63,64,65,66,67,68]
theorem FC.K1:∀(w:Oo) (os:Tp),(L2.FE.qX N6 w 5826 os).map (fun s=>L2.FE.CS N6 w s.abs)=some true:=fun w os=>by kernel_rfl
theorem FC.JS:∀(w:Oo) (os:Tp),(L2.FE.qX N6 w 5826 os).map (fun s=>PySem.W.Fast.tw4187177175401517315 FC.Q [("numbers_needed_listed" : Str),("numbers_needed_triangle" : Str)] (PR N6.main.body) (fun s=>xlAt FC.Q [] s&&recOk (RowW.records (OpenRow.toRowW (TQ.row Pa))) s) true s.abs)=some (openGood FC.Q [("numbers_needed_listed" : Str),("numbers_needed_triangle" : Str)]):=fun w os=>by kernel_rfl
theorem FC.hw:Pa.wellSaid=true:=by kernel_rfl
end
namespace L2
open PySem PySem.Spec PyProof.Rows
noncomputable abbrev Key:=Sum Int Str
noncomputable def FP:Key->NB->Bool
 | .inl k,v=>NB.isInt k v
 | .inr x,v=>NB.isStrOf x v
noncomputable def MC (w:Oo):Key->Int
 | .inl k=>hashInt k
 | .inr x=>hashStr w x
theorem cQ:∀{k:Key}{v:NB},FP k v=true->(∃i t,k=TR i/\v=Qm i t)\/(∃x t,k=TU x/\v=TX x t)
 | .inl i,v,h=>by
  obtain⟨t,e⟩:=NB.isInt_shape (k:=i) (v:=v) h
  exact .inl ⟨i,t,rfl,e⟩
 | .inr x,v,h=>by
  obtain⟨t,e⟩:=NB.isStrOf_shape (x:=x) (v:=v) h
  exact .inr ⟨x,t,rfl,e⟩
theorem G4 (a b):decide ((TR a:Key)=TR b)=(a == b):=by
 grind
theorem GI (a b):decide ((TU a:Key)=TU b)=decide (a=b):=by
 simp
theorem GC (a:Int) (b:Str):decide ((TR a:Key)=TU b)=false:=decide_eq_false (fun q=>nomatch q)
theorem HC (a:Str) (b:Int):decide ((TU a:Key)=TR b)=false:=decide_eq_false (fun q=>nomatch q)
noncomputable def ue (prog) (w):PySem.KeyKind prog w Key where
 is:=FP
 hash:=MC w
 inj:=fun v a b ha hb=>by
  rcases cQ ha with⟨i,t,rfl,rfl⟩ | ⟨x,t,rfl,rfl⟩
  ·rcases cQ hb with⟨j,u,rfl,e⟩ | ⟨y,u,rfl,e⟩
   ·injection e with e1 _;rw[e1]
   ·exact nomatch e
  ·rcases cQ hb with⟨j,u,rfl,e⟩ | ⟨y,u,rfl,e⟩
   ·exact nomatch e
   ·injection e with e1 _;rw[e1]
 byValue:=fun k v h=>by
   rcases cQ h with⟨i,t,rfl,rfl⟩ | ⟨x,t,rfl,rfl⟩<;>rfl
 pyHash:=fun hv h=>by
  rcases cQ hv with⟨i,t,rfl,rfl⟩ | ⟨x,t,rfl,rfl⟩
  ·exact wpAny_pyHash_int h
  ·exact wpAny_pyHash_str h
 eqBool:=fun hu hv h=>by
  rcases cQ hu with⟨i,t,rfl,rfl⟩ | ⟨x,t,rfl,rfl⟩
  ·rcases cQ hv with⟨j,u,rfl,rfl⟩ | ⟨y,u,rfl,rfl⟩
   ·rw[G4] at h;exact wpAny_eqBool_int h
   ·rw[GC] at h;exact OQ.int_str i t y u _ _ _ _ h
  ·rcases cQ hv with⟨j,u,rfl,rfl⟩ | ⟨y,u,rfl,rfl⟩
   ·rw[HC] at h;exact OQ.str_int x t j u _ _ _ _ h
   ·rw[GI] at h;exact wpAny_eqBool_str h
 «strs»:=fun k x t v h=>by
  rcases cQ h with⟨i,u,rfl,e⟩ | ⟨y,u,rfl,e⟩
  ·exact nomatch e
  ·injection e with e1 _
   subst e1
   cases v<;>rfl
inductive V where
 | non | bl (b:Bool) | int (i:Int) | str (x:Str) | byt (b:Array UInt8) | flt (b:UInt64) | ref (a:Addr) | ty (n:String)
 deriving DecidableEq
noncomputable def RelV:V->NB->Prop
 | .non,u=>u=Qq
 | .bl b,u=>u=Tx b
 | .int i,u=>∃t,u=Qm i t
 | .str x,u=>∃t,u=TX x t
 | .byt b,u=>∃t,u=NB.bytes b t
 | .flt b,u=>∃t,u=NB.float b t
 | .ref a,u=>u=Pr a
 | .ty n,u=>u=QC n
noncomputable abbrev Vals:List V->List NB->Prop:=Paired RelV
theorem Vals.length (r:Vals xs us):xs.length=us.length:=Paired.length r
theorem Vals.get:∀{xs:List V}{us:List NB}{i:Nat}{x:V},Vals xs us->xs[i]?=some x->∃u,us[i]?=some u/\RelV x u
 | _,_,_,_,.nil,e=>by simp at e
 | _,_,0,_,.cons r _,e=>by simp_all
 | _,_,i+1,x,.cons _ t,e=>by
  obtain⟨u,h1,h2⟩:=Vals.get (i:=i) (x:=x) t (by simp_all)
  simp_all
theorem Vals.set {x:V}{u:NB} (r:RelV x u):∀{xs:List V}{us:List NB} (i:Nat),Vals xs us->Vals (xs.set i x) (us.set i u)
 | _,_,_,.nil=>.nil
 | _,_,0,.cons _ t=>.cons r t
 | _,_,i+1,.cons q t=>.cons q (Vals.set r i t)
theorem Vals.append:∀{xs ys:List V}{us ws:List NB},Vals xs us->Vals ys ws->Vals (xs++ys) (us++ws)
 | _,_,_,_,.nil,s=>s
 | _,_,_,_,.cons r t,s=>.cons r (Vals.append t s)
theorem Vals.take:∀{xs:List V}{us:List NB} (n:Nat),Vals xs us->Vals (xs.take n) (us.take n)
 | _,_,0,_=>.nil
 | _,_,_+1,.nil=>.nil
 | _,_,n+1,.cons r t=>.cons r (Vals.take n t)
theorem Vals.drop:∀{xs:List V}{us:List NB} n , Vals xs us->Vals (xs.drop n) (us.drop n)
 | _,_,0,r=>r
 | _,_,_+1,.nil=>.nil
 | _,_,n+1,.cons _ t=>Vals.drop n t
noncomputable def HY:Option V->Option NB->Prop
 | some v,some u=>RelV v u
 | none,none=>True
 | _,_=>False
noncomputable def KV:List (κ × V)->List (κ × NB)->Prop:=Paired fun(p:κ × V) (q:κ × NB)=>p.1=q.1/\RelV p.2 q.2
noncomputable def kV:Key->V
 | .inl i=>.int i
 | .inr x=>.str x
inductive HO where
 | lst (xs:List V)
 | tup (xs:List V)
 | dK (kvs:List (Key × V)) | dT (kvs:List (List Key × V))
 | set (S:Int->Bool) (n:Nat)
 | ins (C dx:Addr) (fs:List (Str × V))
 | own (x:Addr)
 | xd (fs:List (Str × V))
 | met (f x:Addr)
 | rng (lo hi:Int)
 | frz (o:Obj) (u:HO)
 | tbl (ps:Array NB)
 | ext (φ:Heap->Prop)
noncomputable abbrev Hp:=Addr->Option HO
noncomputable def upd (H:Hp) (a:Addr) (o:HO):Hp:=fun b=>if b=a then some o else H b
theorem bH:upd H a o a=some o:=by unfold upd;simp
theorem aN (h:b≠a):upd H a o b=H b:=by unfold upd;simp_all
theorem bh {H:Hp} (h:H a=some o) (h':H b=none):a≠b:=by
 grind
noncomputable def mR (h:Heap) (a:Addr) (its:Array NB):Prop:=∃o,h.get? a=some o/\(o.cls=.type "tuple" /\ ∃n,o.data=.seq its n)/\o.dict=none
theorem mR.tup {h:Heap}{a:Addr}{its:Array NB} (x:mR h a its):IsTup h a its:=let ⟨o,e,⟨c,n,d⟩,_⟩:=x;⟨o,e,c,n,d⟩
theorem mR.new (h:Heap) (its):mR (h.push { cls:=.type "tuple", data:=.seq its }) h.objs.size its:=⟨_,NH _ rfl,⟨rfl,_,rfl⟩,rfl⟩
section
variable (P:NW) (w:Oo)
noncomputable def c6 (H:Hp) (h:Heap) (a:Addr):HO->Prop
 | .lst xs=>xs.length<=sizeLine/\∃its n,Vals xs its/\h.get? a=some { cls:=.type "list", data:=.seq its.toArray n }
 | .tup xs=>xs.length<=sizeLine/\∃its:List NB,Vals xs its/\mR h a its.toArray
 | .dK kvs=>kvs.length<=sizeLine/\(a == sysModules)=false/\∃vs,KV kvs vs/\h.DictOf (ue P w) a vs
 | .dT kvs=>kvs.length<=sizeLine/\(a == sysModules)=false/\∃xs:List (List Key × Addr × NB),
   Paired (fun(p:List Key × V) (q:List Key × Addr × NB)=>p.1=q.1/\H q.2.1=some (.tup (p.1.map kV))/\RelV p.2 q.2.2) kvs xs ∧
   ∃o es ep,h.get? a=some o/\o.ExactDict/\o.data=.dict es ep/\es.toList=xs.map (entryOfKey (tupleKind (ue P w)))/\(xs.map (·.1)).Nodup
 | .set S n=>h.SetOf (intKind P w) a S n
 | .ins C dx fs=>H dx=some (.own a)/\fs.length<=1000/\dx≠a/\h.get? a=some (Sj C dx) ∧
   ∃mA,h.Ns1 dx mA/\(∀f,HY (fs.lookup f) (mA f))/\PySem.Within mA (fs.map (·.1))
 | .own _=>∃o,h.get? a=some o
 | .xd fs=>∃mA,h.Ns1 a mA/\∀f,HY (fs.lookup f) (mA f)
 | .rng lo hi=>∃t u v,h.get? a=some { cls:=.type "range", data:=.fields #[.int lo t,.int hi u,.int 1 v] }
 | .frz o u=>h.get? a=some o/\c6 H h a u
 | .tbl ps=>h.get? a=some { cls:=.none,data:=.fields ps }
 | .met f x=>h.get? a=some (RT (.ref f) (.ref x))
 | .ext φ=>φ h/\(∃o,h.get? a=some o)/\∀h1 h2:Heap,φ h1->(∀o,h1.get? a=some o->h2.get? a=some o)->φ h2
noncomputable def HOk (H:Hp) (h:Heap):Prop:=∀a o,H a=some o->c6 P w H h a o
end
section
variable {P:NW}{w:Oo}{H H':Hp}{h h':Heap}{a:Addr}{o:HO}
theorem c6.lt (x:c6 P w H h a o):a<h.objs.size:=by
 cases o with
 | lst xs=>obtain⟨_,_,_,_,e⟩:=x;exact tv e
 | tup xs=>obtain⟨_,_,_,_,e,_⟩:=x;exact tv e
 | dK kvs=>obtain⟨_,_,_,_,o,_,_,e,_⟩:=x;exact tv e
 | dT kvs=>obtain⟨_,_,_,_,o,_,_,e,_⟩:=x;exact tv e
 | set S n=>obtain⟨o,_,_,_,e,_⟩:=x;exact tv e
 | ins C dx fs=>obtain⟨_,_,_,e,_⟩:=x;exact tv e
 | own y=>obtain⟨_,e⟩:=x;exact tv e
 | xd fs=>obtain⟨_,⟨_,_,_,e,_⟩,_⟩:=x;exact tv e
 | rng lo hi=>obtain⟨_,_,_,e⟩:=x;exact tv e
 | frz ob u=>obtain⟨e,_⟩:=x;exact tv e
 | tbl ps=>exact tv (show h.get? a=some _ from x)
 | met f y=>exact tv (show h.get? a=some _ from x)
 | ext φ=>obtain⟨_,⟨_,e⟩,_⟩:=x;exact tv e
theorem Paired.qd {α β:Type}{F G:α->β->Prop}:∀{l₁:List α}{l₂:List β},Paired F l₁ l₂->(∀a b,F a b->G a b)->Paired G l₁ l₂
 | _,_,.nil,_=>.nil
 | _,_,.cons r t,f=>.cons (f _ _ r) (Paired.qd t f)
theorem c6.lU (x:c6 P w H h a o) (k:∀b u,(b=a\/H b=some (.own a))->h.get? b=some u->h'.get? b=some u)
  (ho:∀b,H b=some (.own a)->H' b=some (.own a)) (ht:∀b xs,H b=some (.tup xs)->H' b=some (.tup xs)):c6 P w H' h' a o:=by
 induction o with
 | lst xs=>obtain⟨z,its,n,r,e⟩:=x;exact⟨z,its,n,r,k _ _ (.inl rfl) e⟩
 | tup xs=>obtain⟨z,its,r,ob,e,c⟩:=x;exact⟨z,its,r,ob,k _ _ (.inl rfl) e,c⟩
 | dK kvs=>obtain⟨z,y,vs,r,ob,es,ep,e,c⟩:=x;exact⟨z,y,vs,r,ob,es,ep,k _ _ (.inl rfl) e,c⟩
 | dT kvs=>
  obtain⟨z,y,xs,r,ob,es,ep,e,c⟩:=x
  exact⟨z,y,xs,Paired.qd r fun p q z=>⟨z.1,ht _ _ z.2.1,z.2.2⟩,ob,es,ep,k _ _ (.inl rfl) e,c⟩
 | set S n=>obtain⟨ob,es,ep,t,e,c⟩:=x;exact⟨ob,es,ep,t,k _ _ (.inl rfl) e,c⟩
 | ins C dx fs=>
  obtain⟨d,z,ne,e,mA,⟨od,es,ep,e2,c⟩,r⟩:=x
  exact⟨ho _ d,z,ne,k _ _ (.inl rfl) e,mA,⟨od,es,ep,k _ _ (.inr d) e2,c⟩,r⟩
 | own y=>obtain⟨ob,e⟩:=x;exact⟨ob,k _ _ (.inl rfl) e⟩
 | xd fs=>obtain⟨mA,⟨od,es,ep,e,c⟩,r⟩:=x;exact⟨mA,⟨od,es,ep,k _ _ (.inl rfl) e,c⟩,r⟩
 | rng lo hi=>obtain⟨t,u,v,e⟩:=x;exact⟨t,u,v,k _ _ (.inl rfl) e⟩
 | frz ob u ih=>obtain⟨e,q⟩:=x;exact⟨k _ _ (.inl rfl) e,ih q⟩
 | tbl ps=>
  have e:h.get? a=some { cls:=.none,data:=.fields ps }:=x
  show h'.get? a=some { cls:=.none,data:=.fields ps }
  exact k a _ (.inl rfl) e
 | met f y=>
  have e:h.get? a=some (RT (.ref f) (.ref y)):=x
  show h'.get? a=some (RT (.ref f) (.ref y))
  exact k a _ (.inl rfl) e
 | ext φ=>obtain⟨p,⟨o,e⟩,st⟩:=x;exact⟨st _ _ p fun o q=>k _ _ (.inl rfl) q,⟨o,k _ _ (.inl rfl) e⟩,st⟩
theorem HOk.lt (x:HOk P w H h) (e:H a=some o):a<h.objs.size:=(x a o e).lt
theorem HOk.fresh (x:HOk P w H h) (e:h.objs.size<=a):H a=none:=by
 cases q:H a with
 | none=>rfl
 | some u=>exact absurd (N7 (x.lt q) e) (OH _)
theorem HOk.kept (x:HOk P w H h) (k:∀b u,h.get? b=some u->h'.get? b=some u):HOk P w H h':=fun a o e=>
 (x a o e).lU (fun b u _ q=>k b u q) (fun _ q=>q) fun _ _ q=>q
theorem HOk.laid (x:HOk P w H h) (k:∀b u,h.get? b=some u->h'.get? b=some u) (hp:h.objs.size<=a) (new:c6 P w (upd H a o) h' a o):HOk P w (upd H a o) h':=fun b u e=>by
 have hn:=x.fresh hp
 by_cases hb:b=a
 ·subst hb;rw[bH] at e;simp_all
 ·rw[aN hb] at e
  exact(x b u e).lU (fun c v _ q=>k c v q) (fun c q=>by rw[aN (bh q hn)];exact q) fun c xs q=>by rw[aN (bh q hn)];exact q
end
noncomputable def Rd (H:Hp) (a:Addr) (u:HO):Prop:=H a=some u\/∃o,H a=some (.frz o u)
theorem Rd.ok (r:Rd H a u) (x:HOk P w H h):c6 P w H h a u:=by
 rcases r with r | ⟨o,r⟩
 ·exact x a u r
 ·obtain⟨_,q⟩:=x a _ r
  exact q
noncomputable def Mut:Option HO->Prop
 | some (.lst _)=>True
 | some (.dK _)=>True
 | some (.dT _)=>True
 | some (.set _ _)=>True
 | some (.ins _ _ _)=>True
 | some (.ext _)=>True
 | _=>False
section
variable {P:NW}{w:Oo}{H:Hp}{h h':Heap}{x e:Addr}{o':HO}
theorem HOk.write (ok:HOk P w H h) (mu:Mut (H x)) (he:e=x\/H e=some (.own x)) (k:∀b u,b≠e->h.get? b=some u->h'.get? b=some u) (heo:∃u,h'.get? e=some u)
  (new:c6 P w (upd H x o') h' x o'):HOk P w (upd H x o') h':=fun b u q=>by
 have nown:∀c y,H c=some (.own y)->c≠x:=fun c y r z=>by subst z;rw[r] at mu;exact mu
 have ntup:∀c xs,H c=some (.tup xs)->c≠x:=fun c xs r z=>by subst z;rw[r] at mu;exact mu
 by_cases hb:b=x
 ·subst hb;rw[bH] at q;simp_all
 ·rw[aN hb] at q
  by_cases hbe:b=e
  ·have q':H b=some (.own x):=by
    simp_all
   rw[q] at q';cases q'
   obtain⟨v,hv⟩:=heo
   exact⟨v,by simp_all⟩
  ·refine(ok b u q).lU (fun c v hc r=>k c v ?_ r) (fun c r=>by rw[aN (nown c b r)];exact r) fun c xs r=>by rw[aN (ntup c xs r)];exact r
   grind
end
structure Un (fs ex:List Addr) (H H':Hp) (h h':Heap):Prop where
 keep:∀b o,h.get? b=some o->H b=none->b∉fs->b∉ex->h'.get? b=some o
 slot:∀b o,h.get? b=some o->H b=none->b∈fs->b∉ex->∃sl,h'.get? b=some { o with slots:=sl }
 free:∀b o,h.get? b=some o->H b=none->b∉ex->H' b=none
 there:∀b o,h.get? b=some o->b∉ex->∃o',h'.get? b=some o'
 jL:∀b xs,H b=some (.tup xs)->H' b=some (.tup xs)
 kr:∀b o u,H b=some (.frz o u)->H' b=some (.frz o u)
 kW:∀b ps,H b=some (.tbl ps)->∃more,H' b=some (.tbl (ps++more))
section
variable {fs fs' ex ex':List Addr}{H H1 H2:Hp}{h h1 h2 h':Heap}{a x e:Addr}{o:HO}
theorem Un.any (u:Un fs ex H H1 h h1) (q:h.get? b=some ob) (n:H b=none) (hx:b∉ex):∃sl,h1.get? b=some { ob with slots:=sl }:=by
 by_cases hb:b∈fs
 ·exact u.slot b ob q n hb hx
 ·exact⟨ob.slots,u.keep b ob q n hb hx⟩
theorem Un.kept (k:∀b u,h.get? b=some u->h'.get? b=some u):Un fs ex H H h h':=
 ⟨fun b ob q _ _ _=>k b ob q,fun b ob q _ _ _=>⟨ob.slots,k b ob q⟩,fun _ _ _ n _=>n,fun b ob q _=>⟨ob,k b ob q⟩,fun _ _ q=>q,fun _ _ _ q=>q,fun _ ps q=>⟨#[],by grind⟩⟩
theorem Un.refl:Un fs ex H H h h:=Un.kept fun _ _ q=>q
theorem Un.laid (k:∀b u,h.get? b=some u->h'.get? b=some u) (hp:h.objs.size<=a) (hn:H a=none):Un fs ex H (upd H a o) h h' where
 keep:=fun b u q _ _ _=>k b u q
 slot:=fun b u q _ _ _=>⟨u.slots,k b u q⟩
 free:=fun b u q n _=>by rw[aN (NS (N7 (tv q) hp))];exact n
 there:=fun b u q _=>⟨u,k b u q⟩
 jL:=fun b xs q=>by rw[aN (bh q hn)];exact q
 kr:=fun b u xs q=>by rw[aN (bh q hn)];exact q
 kW:=fun b ps q=>⟨#[],by rw[aN (bh q hn),q];simp⟩
theorem Un.write (mu:Mut (H x)) (he:e=x\/H e=some (.own x)) (k:∀b u,b≠e->h.get? b=some u->h'.get? b=some u) (heo:∃u,h'.get? e=some u):Un fs ex H (upd H x o) h h':=by
 have hx:∀b,H b=none->b≠x:=fun b n z=>by subst z;rw[n] at mu;exact mu
 have hb:∀b,H b=none->b≠e:=fun b n z=>by
  simp_all
 have hm:∀b u,H b=some u->¬ Mut (some u)->b≠x:=fun b u q nm z=>by simp_all
 refine⟨fun b u q n _ _=>k b u (hb b n) q,fun b u q n _ _=>⟨u.slots,k b u (hb b n) q⟩,fun b u q n _=>by rw[aN (hx b n)];exact n,fun b u q _=>?_,
  fun b xs q=>by rw[aN (hm b _ q fun z=>z)];exact q,fun b u xs q=>by rw[aN (hm b _ q fun z=>z)];exact q,fun b ps q=>⟨#[],by rw[aN (hm b _ q fun z=>z),q];simp⟩⟩
 grind
end
noncomputable def trk (h:Heap) (H:Hp):List Addr:=(ND h.objs.size).filter fun a=>(H a).isSome
noncomputable def qG (h:Heap) (H:Hp):Heap:=PySem.W.hideAll h (trk h H)
theorem zW (h) (H):(qG h H).objs.size=h.objs.size:=PySem.W.hideAll_size _ _
theorem Co (e:h.get? b=some o) (n:H b=none):(qG h H).get? b=some o:=
 PySem.W.hideAll_get _ e fun hm=>by
  have q:(H b).isSome=true:=(OA.mp hm).2
  simp_all
theorem EL (e:(qG h H).get? b=some o):h.get? b=some o/\H b=none:=by
 have e':h.get? b=some o:=PySem.W.of_hideAll (trk h H) e
 refine⟨e',?_⟩
 cases q:H b with
 | none=>rfl
 | some x=>
  have hm:b∈trk h H:=OA.mpr ⟨N3.mpr (tv e'),by simp[q]⟩
  have z:(qG h H).get? b=none:=PySem.W.hideAll_none (trk h H) hm
  simp_all
structure Mod (K:gV) (mg) (base):Prop where
 kin:K.In base
 glob:base.Ns mainGlobals mg
 blt:∃mb,base.Ns builtinsNs mb/\∀x:Str,x≠"__name__" -> mb x=bootBuiltins x
 nolimit:base.NoLimit
structure Cx where
 prog:NW
 w:Oo
 K:gV
 mg:Str->Option NB
 base:Heap
 A:Om
 N:List Str
 aE:NF
 aG:Hp
 env:Env
 outer:List Env
 stack:List Env
 ex:List Addr
 fn:Str->Bool
 calm:Bool
 pn:List (Addr × Obj)
 xe:NB->NF->Prop
noncomputable def frs (l:List Env):List Addr:=l.filterMap (·.frame)
noncomputable abbrev Cx.fs (X:Cx):List Addr:=frs X.outer
noncomputable def Vis (sc:Ru) (x:Str):Prop:=sc.names.lookup x=some .local\/sc.names.lookup x=some .cell\/sc.names.lookup x=some .free
noncomputable def Loc (sc:Ru) (x:Str):Prop:=sc.names.lookup x=some .local\/sc.names.lookup x=some .cell
noncomputable def Look (env:Env) (h:Heap) (m:Str->Option NB) (x:Str) (u:NB):Prop:=
 (env.kindOf x=some .local/\m x=some u)\/((env.kindOf x=some .cell\/env.kindOf x=some .free)/\∃c,env.cells.lookup x=some c/\h.IsCell c (some u))
structure Cx.Ok (X:Cx):Prop where
 mod:Mod X.K X.mg X.base
 kind:X.env.scope.kind=.function
 glob:X.env.globals=mainGlobals
 blt:X.env.builtins=builtinsNs
 above:X.aE.heap.objs.size<=X.env.locals
 inj:∀x y c,X.env.cells.lookup x=some c->X.env.cells.lookup y=some c->x=y
 has:∀x,(X.env.kindOf x=some .cell\/X.env.kindOf x=some .free)->∃c,X.env.cells.lookup x=some c
 cab:∀x c,X.fn x=true->X.env.cells.lookup x=some c->X.aE.heap.objs.size<=c
 hd:X.calm=true->X.A.handled=none
 frames:X.A.frames=some X.stack
 stk:X.stack=X.outer\/(X.stack=X.env::X.outer/\X.env.frame=some X.env.locals)
 exf:∀b∈X.ex,b≠X.env.locals/\∀x c,X.env.cells.lookup x=some c->c≠b
 bs:∀b o,X.base.get? b=some o->X.aE.heap.get? b=some o/\X.aG b=none
 bsz:X.base.objs.size<=X.aE.heap.objs.size
 zS:∀b o,X.base.get? b=some o->b∉X.ex
 D9:∀b∈X.ex,b∉X.fs
 mn:X.aE.heap.FunFrames X.base X.outer
 frf:∀b∈X.fs,X.aG b=none
structure Inv (X:Cx) (pins) (σ:List (Option V)) (H) (s:NF):Prop where
 ok:X.Ok
 os:s.os=X.aE.os
 bare:Sk s.gens
 base:Un X.fs X.ex X.aG H X.aE.heap s.heap
 loc:∃m,s.heap.Ns X.env.locals m/\∀(i:Nat) x v , X.N[i]?=some x->σ[i]?=some (some v)->Vis X.env.scope x->∃u,RelV v u/\Look X.env s.heap m x u
 cell:∀x c,X.env.cells.lookup x=some c->∃v,s.heap.IsCell c v
 free:H X.env.locals=none
 gm:∀x c,X.env.cells.lookup x=some c->H c=none
 pin:∀p∈X.pn++pins,s.heap.get? p.1=some p.2/\H p.1=none/\p.1≠X.env.locals/\p.1∉X.fs/\∀v,p.2.data≠.cell v
 hok:HOk X.prog X.w H s.heap
 len:σ.length=X.N.length
section
variable {X:Cx}{pins:List (Addr × Obj)}{σ:List (Option V)}{H H':Hp}{s:NF}{h':Heap}
theorem Cx.Ok.LW (ok:X.Ok) (e:X.base.get? b=some o):b∉X.fs:=fun hb=>by
 have:=(ok.mn.mem hb).1
 simp_all
theorem Inv.bs (I:Inv X pins σ H s):∀b o,X.base.get? b=some o->s.heap.get? b=some o/\H b=none:=fun b o e=>
 ⟨I.base.keep b o (I.ok.bs b o e).1 (I.ok.bs b o e).2 (I.ok.LW e) (I.ok.zS b o e),I.base.free b o (I.ok.bs b o e).1 (I.ok.bs b o e).2 (I.ok.zS b o e)⟩
theorem Inv.bk (I:Inv X pins σ H s):∀b o,X.base.get? b=some o->s.heap.get? b=some o:=fun b o e=>(I.bs b o e).1
theorem Inv.mod (I:Inv X pins σ H s):Mod X.K X.mg X.base:=I.ok.mod
theorem Inv.kIn (I:Inv X pins σ H s):X.K.In s.heap:=I.ok.mod.kin.keeps I.bk
theorem Inv.lt (I:Inv X pins σ H s):X.env.locals<s.heap.objs.size:=let ⟨_,hn,_⟩:=I.loc;hn.lt
theorem Inv.sz (I:Inv X pins σ H s):X.aE.heap.objs.size<=s.heap.objs.size:=N4 I.ok.above (QP I.lt)
theorem Inv.Hj (I:Inv X pins σ H s){a:Addr} (h:s.heap.objs.size<=a):a∉X.fs:=fun hb=>by
 obtain⟨_,o,ho,_⟩:=I.ok.mn.mem hb
 exact absurd (N7 (tv ho) (N4 I.sz h)) (OH _)
theorem Inv.cne (I:Inv X pins σ H s):∀x c,X.env.cells.lookup x=some c->c≠X.env.locals:=fun x c e z=>by
 obtain⟨v,o,ho,hd⟩:=I.cell x c e
 obtain⟨m,⟨o',es,ep,ho',hd',_⟩,_⟩:=I.loc
 simp_all
theorem Inv.mn (I:Inv X pins σ H s):s.heap.FunFrames X.base X.outer:=by
 have all:∀(l:List Env),(∀b∈frs l,b∈X.fs)->X.aE.heap.FunFrames X.base l->s.heap.FunFrames X.base l:=by
  intro l
  induction l with
  | nil=>intro _ _;trivial
  | cons env r ih=>
   intro hs hl
   obtain⟨hk,⟨L,o,hf,hn,ho,hd⟩,hr⟩:=hl
   have hL:L∈X.fs:=hs L (by unfold frs;simp_all)
   obtain⟨sl,e⟩:=I.base.slot L o ho (I.ok.frf L hL) hL fun z=>I.ok.D9 L z hL
   exact⟨hk,⟨L,_,hf,hn,e,hd⟩,ih (fun b hb=>hs b (by unfold frs;rw[List.filterMap_cons,hf];exact ox _ hb)) hr⟩
 exact all X.outer (fun _ hb=>hb) I.ok.mn
theorem Inv.stack (I:Inv X pins σ H s):s.heap.FunFrames X.base X.stack:=by
 rcases I.ok.stk with e | ⟨e,hf⟩
 ·rw[e];exact I.mn
 ·rw[e]
  obtain⟨m,hn,_⟩:=I.loc
  refine .cons (by rw[I.ok.kind];decide) hf hn ?_ I.mn
  exact Heap.get?_none_of_le (N4 I.ok.bsz I.ok.above)
theorem Inv.km (I:Inv X pins σ H s):∀b∈frs X.stack,b∈X.env.locals::X.fs:=fun b hb=>by
 rcases I.ok.stk with e | ⟨e,hf⟩
 ·simp_all
 ·rw[e] at hb
  unfold frs at hb
  rw[List.filterMap_cons,hf] at hb
  exact hb
theorem Inv.nJ (I:Inv X pins σ H s):∀b∈frs X.stack,H b=none:=fun b hb=>by
 rcases NQ.mp (I.km b hb) with e | hb
 ·rw[e];exact I.free
 ·obtain⟨_,o,ho,_⟩:=I.ok.mn.mem hb
  exact I.base.free b o ho (I.ok.frf b hb) fun z=>I.ok.D9 b z hb
theorem Inv.step {g':Array GenState}{t':Nat}{d':Drawn}{ch:List Addr} (I:Inv X pins σ H s)
  (hch:∀b∈ch,(b∈X.ex\/X.aE.heap.objs.size<=b)/\b≠X.env.locals/\(∀x c,X.env.cells.lookup x=some c->c≠b)/\∀p∈X.pn++pins,p.1≠b)
  (keep:∀b o,b≠X.env.locals->b∉X.fs->b∉ch->s.heap.get? b=some o->H b=none->h'.get? b=some o)
  (slot:∀b o,b≠X.env.locals->b∈X.fs->b∉ch->s.heap.get? b=some o->H b=none->∃sl,h'.get? b=some { o with slots:=sl }) (free:∀b o,b∉ch->s.heap.get? b=some o->H b=none->H' b=none)
  (there:∀b o,b∉ch->s.heap.get? b=some o->∃o',h'.get? b=some o')
  (jL:∀b xs,H b=some (.tup xs)->H' b=some (.tup xs)) (kr:∀b o u,H b=some (.frz o u)->H' b=some (.frz o u)) (kW:∀b ps,H b=some (.tbl ps)->∃more,H' b=some (.tbl (ps++more)))
  (ns:∀m,s.heap.Ns X.env.locals m->h'.Ns X.env.locals m) (hok:HOk X.prog X.w H' h') (hg:Sk g') :
  Inv X pins σ H' { s with heap:=h',gens:=g',drawn:=d',toks:=t' }:=by
 have neL:∀b o,X.aE.heap.get? b=some o->b≠X.env.locals:=fun b o e=>NS (N7 (tv e) I.ok.above)
 have neC:∀b o,X.aE.heap.get? b=some o->b∉X.ex->b∉ch:=fun b o e hx hb=>by
  rcases(hch b hb).1 with z | z
  ·exact hx z
  ·exact absurd (N7 (tv e) z) (OH _)
 have cellK:∀x c,X.env.cells.lookup x=some c->∀v,s.heap.IsCell c v->h'.IsCell c v:=fun x c e v ⟨o,ho,hd⟩=>by
  have nch:c∉ch:=fun z=>(hch c z).2.2.1 x c e rfl
  by_cases hc:c∈X.fs
  ·obtain⟨sl,q⟩:=slot c o (I.cne x c e) hc nch ho (I.gm x c e)
   exact⟨_,q,hd⟩
  ·exact⟨o,keep c o (I.cne x c e) hc nch ho (I.gm x c e),hd⟩
 refine⟨I.ok,I.os,hg,⟨fun b o e n hb hx=>?_,fun b o e n hb hx=>?_,fun b o e n hx=>?_,fun b o e hx=>?_,fun b xs e=>jL b xs (I.base.jL b xs e),fun b o xs e=>kr b o xs (I.base.kr b o xs e),fun b ps e=>?_⟩,?_,fun x c e=>?_,?_,fun x c e=>?_,fun p hp=>?_,hok,I.len⟩
 ·exact keep b o (neL b o e) hb (neC b o e hx) (I.base.keep b o e n hb hx) (I.base.free b o e n hx)
 ·obtain⟨sl,e1⟩:=I.base.slot b o e n hb hx
  obtain⟨sl',e2⟩:=slot b _ (neL b o e) hb (neC b o e hx) e1 (I.base.free b o e n hx)
  exact⟨sl',e2⟩
 ·obtain⟨o',e1⟩:=I.base.there b o e hx
  exact free b o' (neC b o e hx) e1 (I.base.free b o e n hx)
 ·obtain⟨o',e1⟩:=I.base.there b o e hx
  exact there b o' (neC b o e hx) e1
 ·obtain⟨m1,e1⟩:=I.base.kW b ps e
  obtain⟨m2,e2⟩:=kW b _ e1
  exact⟨m1++m2,by rw[e2,RJ]⟩
 ·obtain⟨m,hn,hl⟩:=I.loc
  refine⟨m,ns m hn,fun i x v e1 e2 e3=>?_⟩
  obtain⟨u,r,l⟩:=hl i x v e1 e2 e3
  refine⟨u,r,?_⟩
  rcases l with l | ⟨k,c,e,z⟩
  ·exact .inl l
  ·exact .inr ⟨k,c,e,cellK x c e _ z⟩
 ·obtain⟨v,z⟩:=I.cell x c e
  exact⟨v,cellK x c e v z⟩
 ·obtain⟨m,⟨o,_,_,ho,_⟩,_⟩:=I.loc
  exact free _ o (fun z=>(hch _ z).2.1 rfl) ho I.free
 ·obtain⟨v,o,ho,hd⟩:=I.cell x c e
  exact free c o (fun z=>(hch c z).2.2.1 x c e rfl) ho (I.gm x c e)
 ·obtain⟨e,n,ne,nf,d⟩:=I.pin p hp
  have nch:p.1∉ch:=fun z=>(hch p.1 z).2.2.2 p hp rfl
  exact⟨keep p.1 p.2 ne nf nch e n,free p.1 p.2 nch e n,ne,nf,d⟩
theorem Inv.un {t':Nat} (I:Inv X pins σ H s) (u:Un X.fs [] H H' s.heap h') (hok:HOk X.prog X.w H' h'):Inv X pins σ H' { s with heap:=h',toks:=t' }:=by
 obtain⟨m,⟨o,es,ep,ho,r⟩,_⟩:=id I.loc
 obtain⟨sl,hL⟩:=u.any ho I.free (by simp)
 exact I.step (g':=s.gens) (d':=s.drawn) (ch:=[]) (fun _ z=>nomatch z) (fun b o _ hb _ e n=>u.keep b o e n hb (by simp)) (fun b o _ hb _ e n=>u.slot b o e n hb (by simp)) (fun b o _ e n=>u.free b o e n (by simp)) (fun b o _ e=>u.there b o e (by simp)) u.jL u.kr u.kW (fun m' hm=>by
  obtain⟨o',es',ep',ho',r'⟩:=hm
  rw[ho] at ho';cases ho'
  exact⟨_,es',ep',hL,r'⟩) hok I.bare
theorem Inv.call (I:Inv X pins σ H s) (u:Un (frs X.stack) ch H H' s.heap h') (hok:HOk X.prog X.w H' h') (hg:Sk g')
  (hch:∀b∈ch,(b∈X.ex\/X.aE.heap.objs.size<=b)/\b≠X.env.locals/\(∀x c,X.env.cells.lookup x=some c->c≠b)/\∀p∈X.pn++pins,p.1≠b) :
  Inv X pins σ H' { s with heap:=h',gens:=g',drawn:=d',toks:=t' }:=by
 obtain⟨m,⟨o,es,ep,ho,r⟩,_⟩:=id I.loc
 obtain⟨sl,hL⟩:=u.any ho I.free fun z=>(hch _ z).2.1 rfl
 exact I.step (ch:=ch) hch (fun b o hL hb hc e n=>u.keep b o e n (fun z=>(NQ.mp (I.km b z)).elim hL hb) hc) (fun b o _ _ hc e n=>u.any e n hc) (fun b o hc e n=>u.free b o e n hc) (fun b o hc e=>u.there b o e hc) u.jL u.kr u.kW (fun m' hm=>by
  obtain⟨o',es',ep',ho',r'⟩:=hm
  rw[ho] at ho';cases ho'
  exact⟨_,es',ep',hL,r'⟩) hok hg
theorem Inv.turned {t':Nat}{it:Addr} (I:Inv X pins σ H s) (k:∀b o,b≠it->s.heap.get? b=some o->h'.get? b=some o) (hn:H it=none) (hL:it≠X.env.locals)
  (h1:it∈X.ex\/X.aE.heap.objs.size<=it) (h2:∀x c,X.env.cells.lookup x=some c->c≠it) (h3:∀p∈X.pn++pins,p.1≠it):Inv X pins σ H { s with heap:=h',toks:=t' }:=by
 have nit:∀b u,H b=some u->b≠it:=fun b u e z=>by rw[z,hn] at e;cases e
 refine I.step (g':=s.gens) (d':=s.drawn) (ch:=[it]) (fun b hb=>?_) (fun b o _ _ hc e _=>k b o (fun z=>hc (by simp[z])) e) (fun b o _ _ hc e _=>⟨o.slots,k b o (fun z=>hc (by simp[z])) e⟩) (fun _ _ _ _ n=>n)
  (fun b o hc e=>⟨o,k b o (fun z=>hc (by simp[z])) e⟩) (fun _ _ e=>e) (fun _ _ _ e=>e) (fun b ps e=>⟨#[],by rw[e];simp⟩) (fun m hm=>?_) (fun b u e=>?_) I.bare
 ·have e:b=it:=by simpa using hb
  subst e
  exact⟨h1,hL,h2,h3⟩
 ·obtain⟨o,es,ep,ho,r⟩:=hm
  exact⟨o,es,ep,k _ o (Tq hL) ho,r⟩
 ·refine(I.hok b u e).lU (fun c v hc q=>k c v ?_ q) (fun _ q=>q) fun _ _ q=>q
  rcases hc with z | z
  ·rw[z];exact nit b u e
  ·exact nit c _ z
theorem Inv.tok (I:Inv X pins σ H s) (t):Inv X pins σ H { s with toks:=t }:=I.un (h':=s.heap) (t':=t) Un.refl I.hok
theorem Inv.kept (I:Inv X pins σ H s) (k:∀b u,s.heap.get? b=some u->h'.get? b=some u):Inv X pins σ H { s with heap:=h',toks:=t' }:=I.un (Un.kept k) (I.hok.kept k)
theorem Inv.laid {a:Addr} (I:Inv X pins σ H s) (k:∀b u,s.heap.get? b=some u->h'.get? b=some u) (hp:s.heap.objs.size<=a) (new:c6 X.prog X.w (upd H a o) h' a o) :
  Inv X pins σ (upd H a o) { s with heap:=h',toks:=t' }:=I.un (Un.laid k hp (I.hok.fresh hp)) (I.hok.laid k hp new)
theorem Inv.write (I:Inv X pins σ H s) (mu:Mut (H x)) (he:e=x\/H e=some (.own x)) (k:∀b u,b≠e->s.heap.get? b=some u->h'.get? b=some u) (heo:∃u,h'.get? e=some u)
  (new:c6 X.prog X.w (upd H x o) h' x o):Inv X pins σ (upd H x o) { s with heap:=h',toks:=t' }:=I.un (Un.write mu he k heo) (I.hok.write mu he k heo new)
theorem Inv.kX (I:Inv X pins σ H s) (h:∀p∈pins',s.heap.get? p.1=some p.2/\H p.1=none/\p.1≠X.env.locals/\p.1∉X.fs/\∀v,p.2.data≠.cell v):Inv X pins' σ H s:=
 ⟨I.ok,I.os,I.bare,I.base,I.loc,I.cell,I.free,I.gm,fun p hp=>(Oe.mp hp).elim (fun z=>I.pin p (QH _ z)) (h p),I.hok,I.len⟩
theorem vI {N:List Str} (hN:N.Nodup){i j:Nat} (a:N[i]?=some x) (b:N[j]?=some x):i=j:=by
 obtain⟨h1,e1⟩:=Og.mp a
 obtain⟨h2,e2⟩:=Og.mp b
 exact(List.getElem_inj hN).mp (e1.trans e2.symm)
theorem AJ (I:Inv X pins σ H s) (hN:X.N.Nodup) (hi:X.N[i]?=some x) (hx:Loc X.env.scope x) (r:RelV v u)
  (h:∀s',Inv X pins (σ.set i (some v)) H s'->(∃a,QA a s.heap s'.heap/\(a=X.env.locals\/X.env.cells.lookup x=some a))->Q () s') (hf:X.fn x=true\/X.env.scope.names.lookup x=some .local:=by first | exact .inl rfl | exact .inr rfl | assumption):wpAny M A (storeName X.env x u) Q E s:=by
 obtain⟨m,hn,hl⟩:=id I.loc
 have hcls:(X.env.scope.kind == .class || (X.env.scope.kind == .module&&X.env.locals != X.env.globals))=false:=by rw[I.ok.kind];rfl
 have hiσ:i<σ.length:=by rw[I.len];grind
 have cne:=I.cne
 have tracked:∀{a:Addr} {h':Heap},(∃o,s.heap.get? a=some o/\H a=none)->QA a s.heap h'->HOk X.prog X.w H h':=fun{a h'} ha hs b ob e=>by
  obtain⟨_,_,hfree⟩:=ha
  refine(I.hok b ob e).lU (fun c w' hc q=>(hs.2 c ?_).trans q) (fun _ q=>q) fun _ _ q=>q
  grind
 rcases hx with hk | hk
 ·refine wpAny_storeName_local hk hn (fun h' hn' hs=>?_) hcls
  obtain⟨oL,_,_,hoL,_⟩:=id hn
  refine h _ ⟨I.ok,I.os,I.bare,⟨fun b o e n hb hx=>?_,fun b o e n hb hx=>?_,I.base.free,fun b o e hx=>?_,I.base.jL,I.base.kr,I.base.kW⟩,⟨_,hn',fun j y v' e1 e2 e3=>?_⟩,fun y c e=>?_,I.free,I.gm,fun p hp=>?_,tracked ⟨oL,hoL,I.free⟩ hs,by simpa using I.len⟩ ⟨_,hs,.inl rfl⟩
  ·exact(hs.2 b (NS (N7 (tv e) I.ok.above))).trans (I.base.keep b o e n hb hx)
  ·obtain⟨sl,e1⟩:=I.base.slot b o e n hb hx
   exact⟨sl,(hs.2 b (NS (N7 (tv e) I.ok.above))).trans e1⟩
  ·obtain⟨o',e1⟩:=I.base.there b o e hx
   exact⟨o',(hs.2 b (NS (N7 (tv e) I.ok.above))).trans e1⟩
  ·by_cases hj:j=i
   ·subst hj
    rw[hi] at e1;cases e1
    rw[Q5 hiσ] at e2
    cases e2
    exact⟨u,r,.inl ⟨hk,by simp⟩⟩
   ·rw[List.getElem?_set_ne (Tq hj)] at e2
    obtain⟨u',r',q⟩:=hl j y v' e1 e2 e3
    refine⟨u',r',?_⟩
    rcases q with⟨k,e⟩ | ⟨k,c,e,z⟩
    ·refine .inl ⟨k,?_⟩
     have:y≠x:=fun e=>hj (vI hN e1 (e ▸ hi))
     simp_all
    ·exact .inr ⟨k,c,e,z.sameBut hs (cne y c e)⟩
  ·obtain⟨w',z⟩:=I.cell y c e
   exact⟨w',z.sameBut hs (cne y c e)⟩
  ·obtain⟨e,n,ne,nf,d⟩:=I.pin p hp
   exact⟨(hs.2 p.1 ne).trans e,n,ne,nf,d⟩
 ·have hfn:X.fn x=true:=by
   simp_all
  obtain⟨c,hc⟩:=I.ok.has x (.inl hk)
  obtain⟨w',z⟩:=I.cell x c hc
  refine wpAny_storeName_cell I.ok.kind hk hc z (fun h' hc' hs=>?_)
  obtain⟨oc,hoc,hocd⟩:=id z
  refine h { s with heap:=h' } ⟨I.ok,I.os,I.bare,⟨fun b o e n hb hx=>?_,fun b o e n hb hx=>?_,I.base.free,fun b o e hx=>?_,I.base.jL,I.base.kr,I.base.kW⟩,⟨m,hn.sameBut hs (Tq (cne x c hc)),fun j y v' e1 e2 e3=>?_⟩,fun y c' e=>?_,I.free,I.gm,fun p hp=>?_,tracked ⟨oc,hoc,I.gm x c hc⟩ hs,by simpa using I.len⟩ ⟨c,hs,.inr hc⟩
  ·exact(hs.2 b (NS (N7 (tv e) (I.ok.cab x c hfn hc)))).trans (I.base.keep b o e n hb hx)
  ·obtain⟨sl,e1⟩:=I.base.slot b o e n hb hx
   exact⟨sl,(hs.2 b (NS (N7 (tv e) (I.ok.cab x c hfn hc)))).trans e1⟩
  ·obtain⟨o',e1⟩:=I.base.there b o e hx
   exact⟨o',(hs.2 b (NS (N7 (tv e) (I.ok.cab x c hfn hc)))).trans e1⟩
  ·by_cases hj:j=i
   ·subst hj
    rw[hi] at e1;cases e1
    rw[Q5 hiσ] at e2
    cases e2
    exact⟨u,r,.inr ⟨.inl hk,c,hc,hc'⟩⟩
   ·rw[List.getElem?_set_ne (Tq hj)] at e2
    obtain⟨u',r',q⟩:=hl j y v' e1 e2 e3
    refine⟨u',r',?_⟩
    rcases q with q | ⟨k,c',e,z'⟩
    ·exact .inl q
    ·refine .inr ⟨k,c',e,z'.sameBut hs ?_⟩
     rintro rfl
     exact hj (vI hN e1 (I.ok.inj _ _ _ e hc ▸ hi))
  ·by_cases hcc:c'=c
   ·grind
   ·obtain⟨w2,z2⟩:=I.cell y c' e
    exact⟨w2,z2.sameBut hs hcc⟩
  ·obtain⟨e,n,ne,nf,d⟩:=I.pin p hp
   refine⟨(hs.2 p.1 ?_).trans e,n,ne,nf,d⟩
   grind
theorem jz (I:Inv X pins σ H s) (hN:X.N.Nodup) (hi:X.N[i]?=some x) (hx:Loc X.env.scope x) (r:RelV v u)
  (h:∀s',Inv X pins (σ.set i (some v)) H s'->Q () s') (hf:X.fn x=true\/X.env.scope.names.lookup x=some .local:=by first | exact .inl rfl | exact .inr rfl | assumption):wpAny M A (storeName X.env x u) Q E s:=
 AJ I hN hi hx r (fun s' I' _=>h s' I') hf
theorem Inv.vS (I:Inv X pins σ H s) (ho:s'.os=s.os) (u:Un (frs X.stack) ch H H' s.heap s'.heap) (hok:HOk X.prog X.w H' s'.heap) (hg:Sk s'.gens)
  (hch:∀b∈ch,(b∈X.ex\/X.aE.heap.objs.size<=b)/\b≠X.env.locals/\(∀x c,X.env.cells.lookup x=some c->c≠b)/\∀p∈X.pn++pins,p.1≠b):Inv X pins σ H' s':=by
 obtain⟨h',g',d',t',o'⟩:=s'
 have e:o'=s.os:=ho
 subst e
 exact I.call (g':=g') (t':=t') (d':=d') u hok hg hch
end
noncomputable abbrev XK:=NB->Option Addr->Hp->Prop
noncomputable abbrev St:=List (Option V)
noncomputable abbrev VK:=V->Hp->Prop
noncomputable abbrev TE:=St->Hp->VK->Prop
noncomputable abbrev TT:=St->Hp->(Bool->Hp->Prop)->Prop
noncomputable abbrev TA:=St->Hp->(List V->Hp->Prop)->Prop
structure Ends where
 nx:St->Hp->Prop
 rt:VK
 bk:St->Hp->Prop:=fun _ _=>False
 ct:St->Hp->Prop:=fun _ _=>False
noncomputable abbrev TS:=Ends->St->Hp->Prop
noncomputable def EP (X:Cx) (pins:List (Addr × Obj)) (σ:St) (Q:VK) (u:NB) (s':NF):Prop:=∃v H',Inv X pins σ H' s'/\RelV v u/\Q v H'
noncomputable def TP (X:Cx) (pins:List (Addr × Obj)) (σ:St) (Q:Bool->Hp->Prop) (b:Bool) (s':NF):Prop:=∃H',Inv X pins σ H' s'/\Q b H'
noncomputable def AP (X:Cx) (pins:List (Addr × Obj)) (σ:St) (Q:List V->Hp->Prop) (us:List NB) (s':NF):Prop:=∃vs H',Inv X pins σ H' s'/\Vals vs us/\Q vs H'
noncomputable def SP (X:Cx) (pins:List (Addr × Obj)) (D:Ends) (f:Flow) (s':NF):Prop:=
 match f with
 | .next=>∃σ' H',Inv X pins σ' H' s'/\D.nx σ' H'
 | .brk=>∃σ' H',Inv X pins σ' H' s'/\D.bk σ' H'
 | .cont=>∃σ' H',Inv X pins σ' H' s'/\D.ct σ' H'
 | .ret u=>∃v σ' H',Inv X pins σ' H' s'/\RelV v u/\D.rt v H'
noncomputable def PE (X:Cx) (e:Expr) (t:TE):Prop:=
 ∀pins s (σ:St) H Q , Inv X pins σ H s->t σ H Q->wpAny (model X.prog X.w) X.A (eval e X.env) (EP X pins σ Q) X.xe s
noncomputable def PT (X:Cx) (e:Expr) (t:TT):Prop:=
 ∀pins s (σ:St) H Q , Inv X pins σ H s->t σ H Q->wpAny (model X.prog X.w) X.A (isTrue e X.env (eval e X.env)) (TP X pins σ Q) X.xe s
noncomputable def PW (X:Cx) (e:Expr) (t:TT):Prop:=
 ∀whole pins s (σ:St) H Q , Inv X pins σ H s->t σ H Q->wpAny (model X.prog X.w) X.A (isTrue e X.env whole) (TP X pins σ Q) X.xe s
theorem PW.pt (h:PW X e t):PT X e t:=h _
noncomputable def PA (X:Cx) (es:List Expr) (t:TA):Prop:=
 ∀pos pins s (σ:St) H Q , Inv X pins σ H s->t σ H Q->wpAny (model X.prog X.w) X.A (spliced (backTo pos (starEach es X.env))) (AP X pins σ Q) X.xe s
noncomputable def PS (X:Cx) (st:Stmt) (t:TS):Prop:=
 ∀pins s (σ:St) H D , Inv X pins σ H s->t D σ H->wpAny (model X.prog X.w) X.A (exec st X.env) (SP X pins D) X.xe s
noncomputable def PSs (X:Cx) (st:List Stmt) (t:TS):Prop:=
 ∀pins s (σ:St) H D , Inv X pins σ H s->t D σ H->wpAny (model X.prog X.w) X.A (execs st X.env) (SP X pins D) X.xe s
theorem thn {M:Model}{A:Om}{E:NB->NF->Prop}{s:NF} (h:wpAny M A t Q E s) (hQ:∀a s,Q a s->Q' a s):wpAny M A t Q' E s:=OW h hQ fun _ _ x=>x
section
variable {X:Cx}
noncomputable def MX (i:Nat):TE:=fun σ H Q=>∃v,σ[i]?=some (some v)/\Q v H
noncomputable def tC (v:V):TE:=fun _ H Q=>Q v H
theorem AW {pos:Pos} (hN:X.N[i]?=some x) (hv:Vis X.env.scope x) (hd:(x == ("__debug__" : Str))=false:=by decide) (hcd:(x == ("__classdict__" : Str))=false:=by decide):PE X (.Name x pos) (MX i):=by
 intro pins s σ H Q I h
 obtain⟨v,e,h⟩:=h
 obtain⟨m,hn,hl⟩:=I.loc
 obtain⟨u,r,l⟩:=hl i x v hN e hv
 have fin:EP X pins σ Q u s:=⟨v,H,I,r,h⟩
 rcases l with⟨hk,hm⟩ | ⟨hk,c,hc,hcell⟩
 ·exact SD (Rw I.ok.kind hk hn hm fin) hd
 ·rcases hk with hk | hk
  ·exact SD (wpAny_loadName_cell I.ok.kind hk hc hcell fin) hd
  ·exact SD (wpAny_loadName_free I.ok.kind hk hc hcell fin hcd) hd
theorem Gh:PE X (.Constant (.int i) j pos) (tC (.int i)):=fun _ _ _ H _ I h=>wpAny_Constant_int ⟨.int i,H,I.tok _,⟨_,rfl⟩,h⟩
theorem Ji:PE X (.Constant (.bool b) j pos) (tC (.bl b)):=fun _ _ _ H _ I h=>Constant_bool ⟨.bl b,H,I,rfl,h⟩
noncomputable def Gl (X:Cx) (x:Str):Prop:=X.env.kindOf x=some .globalImplicit
theorem ya {σ:St} (I:Inv X pins σ H s) (hg:Gl X x) (hm:X.mg x=some u) (h:Q u s)
  (hd:(x == ("__debug__" : Str))=false:=by decide):wpAny (model X.prog X.w) X.A (eval (.Name x pos) X.env) Q E s:=
 PU I.ok.kind hg (QV (by rw[I.ok.glob];exact I.mod.glob.keeps I.bk) hm h) hd
theorem lJ {E:NB->NF->Prop}{σ:St}{pos:Pos} (I:Inv X pins σ H s) (hg:Gl X x) (hm:X.mg x=none) (hv:bootBuiltins x=some u) (h:Q u s)
  (hn:x≠"__name__" := by decide) (hd:(x == ("__debug__" : Str))=false:=by decide):wpAny (model X.prog X.w) X.A (eval (.Name x pos) X.env) Q E s:=by
 obtain⟨mb,h1,h2⟩:=I.mod.blt
 exact PU I.ok.kind hg (Calls.loadGlobal_builtin (by rw[I.ok.glob];exact I.mod.glob.keeps I.bk) hm (by rw[I.ok.blt];exact h1.keeps I.bk) ((h2 x hn).trans hv) h) hd
theorem Dp (hg:Gl X x) (hm:X.mg x=some u) (r:RelV v u) (hd:(x == ("__debug__" : Str))=false:=by decide):PE X (.Name x pos) (tC v):=
 fun _ _ _ H _ I h=>ya I hg hm ⟨v,H,I,r,h⟩ hd
theorem EK {pos:Pos} (hg:Gl X x) (hm:X.mg x=none) (hv:bootBuiltins x=some u) (r:RelV v u) (hn:x≠"__name__" := by decide) (hd:(x == ("__debug__" : Str))=false:=by decide):PE X (.Name x pos) (tC v):=
 fun _ _ _ H _ I h=>lJ I hg hm hv ⟨v,H,I,r,h⟩ hn hd
variable {a b:Expr}{ta tb:TE}{pos:Pos}
variable {tA tB':TT}{rest:List Expr}
noncomputable def Mj (t u:TT):TT:=fun σ H Q=>t σ H fun c H1=>if c=true then u σ H1 Q else Q false H1
noncomputable def tOr (t u:TT):TT:=fun σ H Q=>t σ H fun c H1=>if c=true then Q true H1 else u σ H1 Q
noncomputable def MP (t:TT):TT:=fun σ H Q=>t σ H fun c H1=>Q (!c) H1
theorem pw_and1 (ha:PT X a tA):PW X (.BoolOp .And [a] pos) tA:=by
 intro wh pins s σ H Q I h
 refine isTrue_and (thn (ha pins s σ H Q I h) fun c s1 e=>?_)
 cases c with
 | true=>exact isTrue_and_nil e
 | false=>exact e
theorem pw_or1 (ha:PT X a tA):PW X (.BoolOp .Or [a] pos) tA:=by
 intro wh pins s σ H Q I h
 refine isTrue_or (thn (ha pins s σ H Q I h) fun c s1 e=>?_)
 cases c with
 | false=>exact isTrue_or_nil e
 | true=>exact e
theorem pw_and (ha:PT X a tA) (hb:PW X (.BoolOp .And (b::rest) pos) tB'):PW X (.BoolOp .And (a::b::rest) pos) (Mj tA tB'):=by
 intro wh pins s σ H Q I h
 refine isTrue_and (thn (ha pins s σ H _ I h) fun c s1 ⟨H1,I1,q1⟩=>?_)
 cases c with
 | true=>exact hb wh pins s1 σ H1 Q I1 q1
 | false=>assumption
theorem pw_or (ha:PT X a tA) (hb:PW X (.BoolOp .Or (b::rest) pos) tB'):PW X (.BoolOp .Or (a::b::rest) pos) (tOr tA tB'):=by
 intro wh pins s σ H Q I h
 refine isTrue_or (thn (ha pins s σ H _ I h) fun c s1 ⟨H1,I1,q1⟩=>?_)
 cases c with
 | true=>assumption
 | false=>exact hb wh pins s1 σ H1 Q I1 q1
theorem Hm (ha:PT X a tA):PT X (.UnaryOp .Not a pos) (MP tA):=by
 intro pins s σ H Q I h
 exact isTrue_not (ha pins s σ H (fun c H1=>Q (!c) H1) I h)
noncomputable def KH (ta tb:TE):TE:=fun σ H Q=>ta σ H fun x H1=>∃c,x=.bl c/\if c=true then tb σ H1 Q else Q (.bl false) H1
noncomputable def Ju (ta:TE):TE:=fun σ H Q=>ta σ H fun x H1=>∃c,x=.bl c/\Q (.bl (!c)) H1
theorem Hz (h:PE X a t):PE X (.BoolOp op [a] pos) t:=fun pins s σ H Q I hw=>BoolOp_one (h pins s σ H Q I hw)
theorem Ij (ha:PE X a ta) (hb:PE X (.BoolOp .And (b::rest) pos) tb):PE X (.BoolOp .And (a::b::rest) pos) (KH ta tb):=by
 intro pins s σ H Q I h
 refine BoolOp_and (thn (ha pins s σ H _ I h) fun v s1 ⟨x,H1,I1,r1,q1⟩=>?_)
 obtain⟨c,rfl,q1⟩:=q1
 cases r1
 refine PB ?_
 cases c with
 | true=>exact hb pins s1 σ H1 Q I1 q1
 | false=>exact⟨.bl false,H1,I1,rfl,q1⟩
theorem HZ (ha:PE X a ta):PE X (.UnaryOp .Not a pos) (Ju ta):=by
 intro pins s σ H Q I h
 refine UnaryOp_ (thn (ha pins s σ H _ I h) fun v s1 ⟨x,H1,I1,r1,q1⟩=>?_)
 obtain⟨c,rfl,q1⟩:=q1
 cases r1
 exact not_of (PB ⟨.bl (!c),H1,I1,rfl,q1⟩)
noncomputable def tIf (t:TT) (ta tb:TE):TE:=fun σ H Q=>t σ H fun c H1=>if c=true then ta σ H1 Q else tb σ H1 Q
theorem CN {c:Expr} (hc:PT X c tA) (ha:PE X a ta) (hb:PE X b tb):PE X (.IfExp c a b pos) (tIf tA ta tb):=by
 intro pins s σ H Q I h
 refine wpAny_IfExp (thn (hc pins s σ H _ I h) fun d s1 ⟨H1,I1,q1⟩=>?_)
 cases d with
 | true=>exact ha pins s1 σ H1 Q I1 q1
 | false=>exact hb pins s1 σ H1 Q I1 q1
end
noncomputable def SqL (K:gV) (H:Hp) (a:Addr) (xs:List V):Prop:=
 Rd H a (.lst xs) ∨
  ∃o its n,K.lookup a=some o/\o.cls=.type "list" /\ o.dict=none/\o.data=.seq its n/\its.size<=sizeLine/\Vals xs its.toList
noncomputable def SqT (K:gV) (H:Hp) (a:Addr) (xs:List V):Prop:=
 Rd H a (.tup xs) ∨
  ∃o its n,K.lookup a=some o/\o.cls=.type "tuple" /\ o.data=.seq its n/\its.size<=sizeLine/\Vals xs its.toList
noncomputable def MW:NB->Option V
 | .none=>some .non
 | .bool b=>some (.bl b)
 | .int i _=>some (.int i)
 | .str x _=>some (.str x)
 | .bytes b _=>some (.byt b)
 | .float b _=>some (.flt b)
 | .ref a=>some (.ref a)
 | .type n=>some (.ty n)
 | _=>none
theorem RelV.abs (r:RelV x u):MW u=some x:=by
 cases x with
 | non=>cases r;rfl
 | bl _=>cases r;rfl
 | int _=>obtain⟨t,rfl⟩:=r;rfl
 | str _=>obtain⟨t,rfl⟩:=r;rfl
 | byt _=>obtain⟨t,rfl⟩:=r;rfl
 | flt _=>obtain⟨t,rfl⟩:=r;rfl
 | ref _=>cases r;rfl
 | ty _=>cases r;rfl
theorem RelV.inj (r:RelV x u) (q:RelV y u):x=y:=Oz (r.abs.symm.trans q.abs)
theorem Vals.inj:∀{xs ys:List V}{us:List NB},Vals xs us->Vals ys us->xs=ys
 | _,_,_,.nil,.nil=>rfl
 | _,_,_,.cons r t,.cons r' t'=>by rw[r.inj r',Vals.inj t t']
section
variable {X:Cx}{pins:List (Addr × Obj)}{σ:St}{H:Hp}{s:NF}{a:Addr}{xs ys:List V}
theorem SqL.of {K:gV} (h:H a=some (.lst xs)):SqL K H a xs:=.inl (.inl h)
theorem SqT.of {K:gV} (h:H a=some (.tup xs)):SqT K H a xs:=.inl (.inl h)
theorem Inv.list (I:Inv X pins σ H s) (h:SqL X.K H a xs):∃its:List NB,Vals xs its/\PlainL s.heap a its.toArray/\xs.length<=sizeLine:=by
 rcases h with h | ⟨o,its,n,hk,hc,hd,hs,hz,r⟩
 ·obtain⟨z,its,n,r,e⟩:=h.ok I.hok
  exact⟨its,r,⟨_,n,e,rfl,rfl,rfl⟩,z⟩
 ·refine⟨its.toList,r,⟨o,n,I.kIn a o hk,hc,hd,by omega⟩,?_⟩
  have e:=r.length
  simp_all
theorem Inv.tuple (I:Inv X pins σ H s) (h:SqT X.K H a xs):∃its:List NB,Vals xs its/\IsTup s.heap a its.toArray/\xs.length<=sizeLine:=by
 rcases h with h | ⟨o,its,n,hk,hc,hs,hz,r⟩
 ·obtain⟨z,its,r,p⟩:=h.ok I.hok
  exact⟨its,r,p.tup,z⟩
 ·refine⟨its.toList,r,⟨o,I.kIn a o hk,hc,n,by omega⟩,?_⟩
  have e:=r.length
  simp_all
theorem Inv.pM (I:Inv X pins σ H s) (h:SqL X.K H a xs) (h':SqL X.K H a ys):xs=ys:=by
 obtain⟨its,r,⟨o,n,e,_,_,d⟩,_⟩:=I.list h
 obtain⟨its',r',⟨o',n',e',_,_,d'⟩,_⟩:=I.list h'
 rw[e] at e';cases e'
 rw[d] at d'
 injection d' with d1 _
 have:its=its':=by simp_all
 subst this
 exact r.inj r'
theorem Inv.lX (I:Inv X pins σ H s) (h:SqT X.K H a xs) (h':SqT X.K H a ys):xs=ys:=by
 obtain⟨its,r,⟨o,e,_,n,d⟩,_⟩:=I.tuple h
 obtain⟨its',r',⟨o',e',_,n',d'⟩,_⟩:=I.tuple h'
 rw[e] at e';cases e'
 rw[d] at d'
 injection d' with d1 _
 have:its=its':=by simp_all
 subst this
 exact r.inj r'
end
noncomputable abbrev Cx.qK (X:Cx) (E:NB->NF->Prop):Cx:={ X with xe:=E }
noncomputable abbrev Cx.nox (X:Cx):Cx:=X.qK fun _ _=>False
theorem Cx.Ok.qK {X:Cx} (ok:X.Ok) (E):(X.qK E).Ok:=
 ⟨ok.mod,ok.kind,ok.glob,ok.blt,ok.above,ok.inj,ok.has,ok.cab,ok.hd,ok.frames,ok.stk,ok.exf,ok.bs,ok.bsz,ok.zS,ok.D9,ok.mn,ok.frf⟩
theorem Cx.Ok.je {X:Cx} (ok:(X.qK E).Ok):X.Ok:=
 ⟨ok.mod,ok.kind,ok.glob,ok.blt,ok.above,ok.inj,ok.has,ok.cab,ok.hd,ok.frames,ok.stk,ok.exf,ok.bs,ok.bsz,ok.zS,ok.D9,ok.mn,ok.frf⟩
section
variable {X:Cx}{pins:List (Addr × Obj)}{σ:St}{H:Hp}{s:NF}{E:NB->NF->Prop}
theorem Inv.qK (I:Inv X pins σ H s) (E):Inv (X.qK E) pins σ H s:=⟨I.ok.qK E,I.os,I.bare,I.base,I.loc,I.cell,I.free,I.gm,I.pin,I.hok,I.len⟩
theorem Inv.je (I:Inv (X.qK E) pins σ H s):Inv X pins σ H s:=⟨I.ok.je,I.os,I.bare,I.base,I.loc,I.cell,I.free,I.gm,I.pin,I.hok,I.len⟩
theorem SP.je (h:SP (X.qK E) pins D f s'):SP X pins D f s':=by
 cases f with
 | next=>obtain⟨σ',H',I,q⟩:=h;exact⟨σ',H',I.je,q⟩
 | brk=>obtain⟨σ',H',I,q⟩:=h;exact⟨σ',H',I.je,q⟩
 | cont=>obtain⟨σ',H',I,q⟩:=h;exact⟨σ',H',I.je,q⟩
 | ret u=>obtain⟨v,σ',H',I,r,q⟩:=h;exact⟨v,σ',H',I.je,r,q⟩
theorem PSs.nox {st:List Stmt} (h:PSs X.nox st t):PSs X st t:=fun pins s σ H D I hw=>
 OW (h pins s σ H D (I.qK _) hw) (fun _ _ q=>q.je) fun _ _ z=>QD z
end
section
variable {X:Cx}{st:Stmt}{rest:List Stmt}{t u:TS}{e:Expr}{te:TE}{pos:Pos}
noncomputable def KG:TS:=fun D σ H=>D.nx σ H
noncomputable def MD (t u:TS):TS:=fun D σ H=>t { D with nx:=u D } σ H
theorem EW:PSs X [] KG:=fun _ _ σ H _ I h=>RA ⟨σ,H,I,h⟩
theorem BB (h1:PS X st t) (h2:PSs X rest u):PSs X (st::rest) (MD t u):=by
 intro pins s σ H D I h
 refine wpAny_execs_cons (thn (h1 pins s σ H { D with nx:=u D } I h) fun f s1 q=>?_)
 cases f with
 | next=>
  obtain⟨σ',H',I',q⟩:=q
  exact h2 pins s1 σ' H' D I' q
 | ret v=>exact q
 | brk=>exact q
 | cont=>exact q
theorem Dq (h1:PS X st t):PSs X [st] t:=by
 intro pins s σ H D I h
 refine wpAny_execs_cons (thn (h1 pins s σ H D I h) fun f s1 q=>?_)
 cases f with
 | next=>exact RA q
 | ret v=>exact q
 | brk=>exact q
 | cont=>exact q
noncomputable def Hd:TS:=fun D σ H=>D.bk σ H
theorem B7:PS X (.Break pos) Hd:=fun _ _ σ H _ I h=>wpAny_Break ⟨σ,H,I,h⟩
theorem Inv.quiet {pins:List (Addr × Obj)}{σ:St}{H:Hp}{s:NF} (I:Inv X pins σ H s):interactive X.env=false:=by simp[interactive,I.ok.kind]
noncomputable def KR (te:TE):TS:=fun D σ H=>te σ H fun _ H1=>D.nx σ H1
theorem Ef (he:PE X e te) (hs:swapsWith e none pos.line X.env=pure false:=by rfl):PS X (.Expr e pos) (KR te):=by
 intro pins s σ H D I h
 exact wpAny_Expr_any (thn (he pins s σ H _ I h) fun v s1 ⟨x,H1,I1,r1,q1⟩=>⟨σ,H1,I1,q1⟩) I.quiet hs
noncomputable def L_ (te:TE):TS:=fun D σ H=>te σ H D.rt
theorem HQ (he:PE X e te):PS X (.Return (some e) pos) (L_ te):=by
 intro pins s σ H D I h
 exact RU (thn (he pins s σ H _ I h) fun v s1 ⟨x,H1,I1,r1,q1⟩=>⟨x,σ,H1,I1,r1,q1⟩)
noncomputable def Mq (c:TT) (t u:TS):TS:=fun D σ H=>c σ H fun b H1=>if b=true then t D σ H1 else u D σ H1
theorem KQ {c:Expr}{a b:List Stmt}{tc:TT} (hc:PT X c tc) (ha:PSs X a t) (hb:PSs X b u):PS X (.If c a b pos) (Mq tc t u):=by
 intro pins s σ H D I h
 refine wpAny_If (thn (hc pins s σ H _ I h) fun d s1 ⟨H1,I1,q1⟩=>?_)
 cases d with
 | true=>exact ha pins s1 σ H1 D I1 q1
 | false=>exact hb pins s1 σ H1 D I1 q1
noncomputable def Gw:TS:=fun _ _ _=>False
theorem jC:PS X st Gw:=fun _ _ _ _ _ _ h=>h.elim
end
noncomputable abbrev TG:=V->St->Hp->(St->Hp->Prop)->Prop
noncomputable abbrev TGs:=List V->St->Hp->(St->Hp->Prop)->Prop
noncomputable def PG (X:Cx) (target:Expr) (t:TG):Prop:=
 ∀pins s (σ:St) H v u Q , Inv X pins σ H s->RelV v u->t v σ H Q →
  wpAny (model X.prog X.w) X.A (assign target X.env u) (fun _ s'=>∃σ' H',Inv X pins σ' H' s'/\Q σ' H') X.xe s
noncomputable def PGs (X:Cx) (ts:List Expr) (t:TGs):Prop:=
 ∀pins s (σ:St) H vs us Q , Inv X pins σ H s->Vals vs us->t vs σ H Q →
  wpAny (model X.prog X.w) X.A (assignInOrder ((assignEach ts X.env).map (·.2)) us) (fun _ s'=>∃σ' H',Inv X pins σ' H' s'/\Q σ' H') X.xe s
noncomputable abbrev xF:=V->V->V->Hp->(Hp->Prop)->Prop
noncomputable def Ee (X:Cx) (t:xF):Prop:=
 ∀pins s (σ:St) H o i v ov iv u Q , Inv X pins σ H s->RelV o ov->RelV i iv->RelV v u->t o i v H Q →
  wpAny (model X.prog X.w) X.A (setItem ov iv u) (fun _ s'=>∃H',Inv X pins σ H' s'/\Q H') X.xe s
noncomputable abbrev TIp:=V->V->Hp->VK->Prop
noncomputable def PIp (X:Cx) (op:TV) (t:TIp):Prop:=
 ∀pins s (σ:St) H x y v u Q , Inv X pins σ H s->RelV x v->RelV y u->t x y H Q →
  wpAny (model X.prog X.w) X.A (inplaceOp op v u) (EP X pins σ Q) X.xe s
section
variable {X:Cx}{pos:Pos}
noncomputable def iZ (i:Nat):TG:=fun v σ H Q=>Q (σ.set i (some v)) H
theorem iN (hN:X.N.Nodup) (hi:X.N[i]?=some x) (hx:Loc X.env.scope x) (hf:X.fn x=true\/X.env.scope.names.lookup x=some .local:=by first | exact .inl rfl | exact .inr rfl | assumption):PG X (.Name x pos) (iZ i):=by
 intro pins s σ H v u Q I r h
 exact RV (jz I hN hi hx r (fun s' I'=>⟨_,H,I',h⟩) hf)
noncomputable def Jp:TGs:=fun vs σ H Q=>vs=[]/\Q σ H
noncomputable def CZ (t:TG) (u:TGs):TGs:=fun vs σ H Q=>∃v r,vs=v::r/\t v σ H fun σ' H'=>u r σ' H' Q
theorem rX:PGs X [] Jp:=by
 intro pins s σ H vs us Q I r h
 obtain⟨e,h⟩:=h
 subst e
 cases r
 exact assignInOrder_nil ⟨σ,H,I,h⟩
theorem g8 {e:Expr}{es:List Expr}{t:TG}{u:TGs} (h1:PG X e t) (h2:PGs X es u)
  (hs:(assignEach (e::es) X.env).map (·.2)=assign e X.env::(assignEach es X.env).map (·.2):=by rfl):PGs X (e::es) (CZ t u):=by
 intro pins s σ H vs us Q I r h
 obtain⟨v,vr,e1,h⟩:=h
 subst e1
 cases r with
 | cons r rr=>
  rw[hs]
  refine assignInOrder_cons (thn (h1 pins s σ H _ _ _ I r h) fun _ s1 ⟨σ1,H1,I1,q1⟩=>?_)
  exact h2 pins s1 σ1 H1 _ _ Q I1 rr q1
noncomputable def Jw (K:gV) (n:Nat) (t:TGs):TG:=fun v σ H Q=>∃a xs,v=.ref a/\SqT K H a xs/\xs.length=n/\t xs σ H Q
theorem xJ {k:Nat} (hc:X.calm=true) (h:PGs X es t)
  (hn:(assignEach es X.env).length=n:=by rfl) (hst:(assignEach es X.env).findIdx? (·.1)=none:=by rfl):PG X (.Tuple es k pos) (Jw X.K n t):=by
 intro pins s σ H v u Q I r hw
 obtain⟨a,xs,e1,hq,hl,hw⟩:=hw
 subst e1
 cases r
 obtain⟨its,rv,ht,hz⟩:=I.tuple hq
 refine assign_Tuple_tuple (I.ok.hd hc) ht (by simp[hn,<- hl,rv.length]) hst fun h' hx=>?_
 have I1:Inv X pins σ H { s with heap:=h' }:=I.kept (t':=s.toks) fun b o e=>hx b o (NS (tv e)) e
 exact h pins _ σ H xs _ Q I1 (by lia) hw
noncomputable def Lm (to ti:TE) (t:xF):TG:=fun v σ H Q=>to σ H fun o H1=>ti σ H1 fun i H2=>t o i v H2 fun H3=>Q σ H3
theorem He {o i:Expr}{to ti:TE}{t:xF} (ho:PE X o to) (hi:PE X i ti) (hs:Ee X t)
  (ha:∀v,assign (.Subscript o i pos) X.env v=(do
   let ov ← holding [v] (eval o X.env)
   let iv ← holding [v,ov] (eval i X.env)
   standAt pos
   holding [v,ov,iv] (setItem ov iv v)
   release [v,ov,iv] []):=by intro _;rfl):PG X (.Subscript o i pos) (Lm to ti t):=by
 intro pins s σ H v u Q I r h
 rw[ha]
 refine k3 (OR (thn (ho pins s σ H _ I h) fun ov s1 ⟨x,H1,I1,r1,q1⟩=>?_))
 refine k3 (OR (thn (hi pins s1 σ H1 _ I1 q1) fun iv s2 ⟨y,H2,I2,r2,q2⟩=>?_))
 refine k3 (Qe (k3 (OR (thn (hs pins s2 σ H2 x y v ov iv u _ I2 r1 r2 r q2) fun _ s3 ⟨H3,I3,q3⟩=>?_))))
 exact wpAny_release ⟨σ,H3,I3,q3⟩
noncomputable def E_ (te:TE) (g:TG):TS:=fun D σ H=>te σ H fun x H1=>g x σ H1 D.nx
theorem CP {tg e:Expr}{te:TE}{g:TG} (he:PE X e te) (hg:PG X tg g) (hs:swapsWithSole [tg] e pos.line X.env=pure false:=by rfl) (hw:swappedStores [tg] e X.env=pure none:=by rfl)
  (h1:(assignEach [tg] X.env).map (·.2)=[assign tg X.env]:=by rfl):PS X (.Assign [tg] e pos) (E_ te g):=by
 intro pins s σ H D I h
 refine wpAny_Assign_stores (thn (he pins s σ H _ I h) fun v s1 ⟨x,H1,I1,r1,q1⟩=>?_) hs hw
 rw[h1]
 exact thn (hg pins s1 σ H1 x v _ I1 r1 q1) fun _ s2 q=>q
theorem Hx {i:Nat}{x:Str}{e:Expr}{te:TE}{pos':Pos} (hN:X.N.Nodup) (hi:X.N[i]?=some x) (hx:Loc X.env.scope x) (he:PE X e te) (hs:swapsWith e (some (.Name x pos')) pos.line X.env=pure false:=by rfl) (hf:X.fn x=true\/X.env.scope.names.lookup x=some .local:=by first | exact .inl rfl | exact .inr rfl | assumption) :
  PS X (.Assign [.Name x pos'] e pos) (E_ te (iZ i)):=by
 intro pins s σ H D I h
 refine wpAny_Assign_Name (thn (he pins s σ H _ I h) fun v s1 ⟨y,H1,I1,r1,q1⟩=>?_) hs
 exact jz I1 hN hi hx r1 (fun s2 I2=>⟨_,H1,I2,q1⟩) hf
noncomputable def LN (i:Nat) (te:TE) (ti:TIp):TS:=fun D σ H=>∃x,σ[i]?=some (some x)/\te σ H fun y H1=>ti x y H1 fun z H2=>D.nx (σ.set i (some z)) H2
theorem Hy {i:Nat}{x:Str}{e:Expr}{te:TE}{op:TV}{ti:TIp}{pos':Pos} (hN:X.N.Nodup) (hi:X.N[i]?=some x) (hx:Loc X.env.scope x) (he:PE X e te) (ho:PIp X op ti) (hf:X.fn x=true\/X.env.scope.names.lookup x=some .local:=by first | exact .inl rfl | exact .inr rfl | assumption) :
  PS X (.AugAssign (.Name x pos') op e pos) (LN i te ti):=by
 intro pins s σ H D I h
 obtain⟨v,e1,h⟩:=h
 obtain⟨m,hn,hl⟩:=I.loc
 have vis:Vis X.env.scope x:=by rcases hx with k | k;exact .inl k;exact .inr (.inl k)
 obtain⟨u,r,l⟩:=hl i x v hi e1 vis
 refine wpAny_AugAssign_Name ?_
 have go:wpAny (model X.prog X.w) X.A (eval e X.env) (fun w s₂=>wpAny (model X.prog X.w) X.A (inplaceOp op u w) (fun r s₃=>wpAny (model X.prog X.w) X.A (storeName X.env x r) (fun _=>SP X pins D .next) X.xe s₃) X.xe s₂) X.xe s:=by
  refine thn (he pins s σ H _ I h) fun w s1 ⟨y,H1,I1,r1,q1⟩=>?_
  refine thn (ho pins s1 σ H1 v y u w _ I1 r r1 q1) fun z s2 ⟨zv,H2,I2,r2,q2⟩=>?_
  exact jz I2 hN hi hx r2 (fun s3 I3=>⟨_,H2,I3,q2⟩) hf
 rcases l with⟨hk,hm⟩ | ⟨hk,c,hc,hcell⟩
 ·exact Rw I.ok.kind hk hn hm go
 ·rcases hk with hk | hk
  ·exact wpAny_loadName_cell I.ok.kind hk hc hcell go
  ·rcases hx with k | k
   ·have:X.env.scope.names.lookup x=some .free:=hk
    simp_all
   ·have:X.env.scope.names.lookup x=some .free:=hk
    simp_all
noncomputable def KZ (to ti te:TE) (tget:V->V->Hp->VK->Prop) (tip:TIp) (tset:xF):TS:=fun D σ H=>to σ H fun o H1=>ti σ H1 fun i H2=>tget o i H2 fun x H3=>te σ H3 fun y H4=>tip x y H4 fun z H5=>tset o i z H5 fun H6=>D.nx σ H6
noncomputable def JH (X:Cx) (t:V->V->Hp->VK->Prop):Prop:=
 ∀pins s (σ:St) H o i ov iv Q , Inv X pins σ H s->RelV o ov->RelV i iv->t o i H Q →
  wpAny (model X.prog X.w) X.A (getItem ov iv) (EP X pins σ Q) X.xe s
theorem Dx {o i e:Expr}{to ti te:TE}{tget:V->V->Hp->VK->Prop}{tip:TIp}{tset:xF}{op:TV}{tpos:Pos} (ho:PE X o to) (hi:PE X i ti) (hg:JH X tget) (he:PE X e te) (hp:PIp X op tip) (hs:Ee X tset)
  (ha:∀ov iv new,augStore i ov iv new=(do holding [new,ov,iv] (setItem ov iv new);release [new,ov,iv] [];pure .next):=by intros;rfl):PS X (.AugAssign (.Subscript o i tpos) op e pos) (KZ to ti te tget tip tset):=by
 intro pins s σ H D I h
 refine wpAny_AugAssign_SubscriptAny (thn (ho pins s σ H _ I h) fun ov s1 ⟨x1,H1,I1,r1,q1⟩=>?_) ha
 refine thn (hi pins s1 σ H1 _ I1 q1) fun iv s2 ⟨x2,H2,I2,r2,q2⟩=>?_
 refine thn (hg pins s2 σ H2 x1 x2 ov iv _ I2 r1 r2 q2) fun old s3 ⟨x3,H3,I3,r3,q3⟩=>?_
 refine thn (he pins s3 σ H3 _ I3 q3) fun v s4 ⟨x4,H4,I4,r4,q4⟩=>?_
 refine thn (hp pins s4 σ H4 x3 x4 old v _ I4 r3 r4 q4) fun new s5 ⟨x5,H5,I5,r5,q5⟩=>?_
 exact thn (hs pins s5 σ H5 x1 x2 x5 ov iv new _ I5 r1 r2 r5 q5) fun _ s6 ⟨H6,I6,q6⟩=>⟨σ,H6,I6,q6⟩
noncomputable def ipI (f:Int->Int->Int):TIp:=fun x y H Q=>∃i j,x=.int i/\y=.int j/\Q (.int (f i j)) H
theorem CQ:PIp X .Add (ipI fun i j=>i+j):=by
 intro pins s σ H x y v u Q I r1 r2 h
 obtain⟨i,j,e1,e2,q⟩:=h
 subst e1;subst e2
 obtain⟨t,rfl⟩:=r1
 obtain⟨t',rfl⟩:=r2
 exact iadd_int ⟨.int _,H,I.tok _,⟨_,rfl⟩,q⟩
theorem GW:PIp X .Sub (ipI fun i j=>i - j):=by
 intro pins s σ H x y v u Q I r1 r2 h
 obtain⟨i,j,e1,e2,q⟩:=h
 subst e1;subst e2
 obtain⟨t,rfl⟩:=r1
 obtain⟨t',rfl⟩:=r2
 exact isub_int ⟨.int _,H,I.tok _,⟨_,rfl⟩,q⟩
end
section
variable {X:Cx}{pos:Pos}
noncomputable def Gk (c:TT) (tb:TS):TS:=fun D σ H=>∃W:Nat->St->Hp->Prop,(∃m,W m σ H)/\∀m σ H,W m σ H →
 c σ H fun b H1=>if b=true then ∃N:St->Hp->Prop,(∀σ' H',N σ' H'->∃m',m'<m/\W m' σ' H')/\tb { D with nx:=N,ct:=N,bk:=D.nx } σ H1 else D.nx σ H1
theorem Bz {c:Expr}{body:List Stmt}{tc:TT}{tb:TS} (hp:Tr (model X.prog X.w) X.A X.env X.xe) (hc:PT X c tc) (hb:PSs X body tb):PS X (.While c body [] pos) (Gk tc tb):=by
 intro pins s σ H D I h
 obtain⟨W,⟨m0,w0⟩,turn⟩:=h
 refine wpAny_While (codeAny_whileLoop (fun n s'=>∃σ' H',Inv X pins σ' H' s'/\W n σ' H') ?_ m0 ⟨σ,H,I,w0⟩)
 rintro n s1 ⟨σ1,H1,I1,w1⟩
 refine P8 hp (thn (hc pins s1 σ1 H1 _ I1 (turn n σ1 H1 w1)) fun b s2 ⟨H2,I2,q2⟩=>?_)
 cases b with
 | true=>
  obtain⟨N,hN,q2⟩:=q2
  rw[if_pos rfl]
  refine P8 hp (thn (hb pins s2 σ1 H2 _ I2 q2) fun f s3 q3=>?_)
  cases f with
  | next=>
   obtain⟨σ3,H3,I3,n3⟩:=q3
   obtain⟨m',hm,w3⟩:=hN σ3 H3 n3
   exact⟨m',hm,σ3,H3,I3,w3⟩
  | cont=>
   obtain⟨σ3,H3,I3,n3⟩:=q3
   obtain⟨m',hm,w3⟩:=hN σ3 H3 n3
   exact⟨m',hm,σ3,H3,I3,w3⟩
  | brk=>exact q3
  | ret v=>exact q3
 | false=>
  rw[if_neg Oc]
  exact RA ⟨σ1,H2,I2,q2⟩
end
structure It where
 go:Nat->Hp->Prop
 yld:Nat->Hp->V->Hp->Prop
 stop:Nat->Hp->Prop
noncomputable def m7 (X:Cx) (pins:List (Addr × Obj)) (H:Hp) (b:Addr):Prop:=
 H b=none/\b≠X.env.locals/\b∉X.fs/\(b∈X.ex\/X.aE.heap.objs.size<=b)/\(∀x c,X.env.cells.lookup x=some c->c≠b)/\∀p∈X.pn++pins,p.1≠b
theorem Inv.Ey {σ:St}{b:Addr} (I:Inv X pins σ H s) (hb:s.heap.objs.size<=b) (hn:H' b=none):m7 X pins H' b:=by
 refine⟨hn,Qd (N7 I.lt hb),I.Hj hb,.inr (N4 I.sz hb),fun x c e z=>?_,fun p hp z=>?_⟩
 ·obtain⟨v,q⟩:=I.cell x c e
  exact absurd (N7 q.lt (by simp_all)) (OH _)
 ·exact absurd (N7 (tv (I.pin p hp).1) (by simp_all)) (OH _)
structure Turn (P) (w) (K) (tg) (J:It) (fp:List Addr) (it) (tn:Nat->Heap->Prop):Prop where
 mem:it∈fp
 obj:∀i h,tn i h->∀b∈fp,∃o,h.get? b=some o/\∀v,o.data≠.cell v
 keep:∀i h h',tn i h->(∀b∈fp,∀o,h.get? b=some o->h'.get? b=some o)->tn i h'
 item:∀X , X.prog=P->X.w=w->X.K=K->X.calm=true->∀i pins s (σ:St) H E , Inv X pins σ H s->(∀b∈fp,m7 X pins H b)->tn i s.heap->J.go i H →
  wpAny (model P w) X.A (pyNext (.ref it)) (fun r s1=>∃u,r=some u ∧
   wpAny (model P w) X.A (letOwnedTupleGo tg (.ref it) u) (fun _ s2=>∃x H',Inv X pins σ H' s2/\RelV x u/\J.yld i H x H'/\tn (i+1) s2.heap/\∀b∈fp,H' b=none) E s1) E s
 done:∀X , X.prog=P->X.w=w->X.K=K->X.calm=true->∀i pins s (σ:St) H E , Inv X pins σ H s->(∀b∈fp,m7 X pins H b)->tn i s.heap->J.stop i H →
  wpAny (model P w) X.A (pyNext (.ref it)) (fun r s1=>r=none/\Inv X pins σ H s1) E s
 self:∀A i s Q E , tn i s.heap->Q (.ref it) s->wpAny (model P w) A (pyIter (.ref it)) Q E s
noncomputable abbrev TI:=St->Hp->(It->Hp->Prop)->Prop
noncomputable def PIE (X:Cx) (pins:List (Addr × Obj)) (σ:St) (tg:Expr) (R:It->Hp->Prop) (itv:NB) (s2:NF):Prop:=
 ∃it fp tn J H',itv=.ref it/\Inv X pins σ H' s2/\Turn X.prog X.w X.K tg J fp it tn/\tn 0 s2.heap/\(∀b∈fp,m7 X pins H' b)/\R J H'
noncomputable def PI (X:Cx) (tg iter:Expr) (wi:TI):Prop:=
 ∀pins s (σ:St) H R , Inv X pins σ H s->wi σ H R →
  wpAny (model X.prog X.w) X.A (eval iter X.env) (fun v s1=>wpAny (model X.prog X.w) X.A (pyIter v) (PIE X pins σ tg R) X.xe s1) X.xe s
theorem AV {M:Model}{A:Om}{E:NB->NF->Prop}{s:NF}{tg:Expr}{it:Addr}{u:NB}{o:Obj}{n:String}{vs:Array NB}{Q:Unit->NF->Prop} (ho:s.heap.get? it=some o) (hc:o.cls=.type n) (hd:o.data=.fields vs)
  (hn:["enumerate", "zip", "dict_itemiterator", "dict_reverseitemiterator", "odict_iterator", "itertools.zip_longest", "itertools.pairwise"].contains n=false) (hQ:Q () s):wpAny M A (letOwnedTupleGo tg (.ref it) u) Q E s:=by
 unfold letOwnedTupleGo
 cases tg<;>first
  | exact td hQ
  | (cases u<;>first
    | exact td hQ
    | (refine k3 (Tz ho ?_)
       rw[hc,hd]
       show wpAny M A (if (["enumerate", "zip", "dict_itemiterator", "dict_reverseitemiterator", "odict_iterator", "itertools.zip_longest", "itertools.pairwise"].contains n&&vs[0]? == some (rawInt _))=true then _ else _) Q E s
       rw[if_neg (by intro h;rw[hn,Bool.false_and] at h;cases h)]
       exact td hQ))
noncomputable def Itl (K:gV) (a:Addr):It:=
 ⟨fun i H=>∃xs x,SqL K H a xs/\xs[i]?=some x,fun i H x H'=>H'=H/\∀xs,SqL K H a xs->xs[i]?=some x,fun i H=>∃xs,SqL K H a xs/\xs.length<=i⟩
noncomputable def Itt (K:gV) (a:Addr):It:=
 ⟨fun i H=>∃xs x,SqT K H a xs/\xs[i]?=some x,fun i H x H'=>H'=H/\∀xs,SqT K H a xs->xs[i]?=some x,fun i H=>∃xs,SqT K H a xs/\xs.length<=i⟩
noncomputable def Itr (lo:Int) (n:Nat):It:=⟨fun i _=>i<n,fun i H x H'=>H'=H/\x=.int (lo+i),fun i _=>n<=i⟩
theorem Ap {P:NW}{w:Oo}{K:gV}{tg:Expr} (a it:Addr):Turn P w K tg (Itl K a) [it] it (fun i h=>h.IsListIter it a i) where
 mem:=by simp
 obj:=fun i h st b hb=>by
  have e:b=it:=by simpa using hb
  subst e
  obtain⟨o,e,c,d⟩:=st
  exact⟨o,e,fun v z=>by rw[d] at z;cases z⟩
 keep:=fun i h h' st k=>st.at fun o e=>k it (by simp) o e
 item:=by
  intro X hP hw hK hc i pins s σ H E I hf st hg
  subst hP hw hK
  obtain⟨xs,x,hq,hx⟩:=hg
  obtain⟨its,rv,p,hz⟩:=I.list hq
  obtain⟨u,hu,ru⟩:=rv.get hx
  obtain⟨f0,f1,f2,f3,f4,f5⟩:=hf it (by simp)
  refine wpAny_pyNext_list_item st p.isList (x:=u) (by simpa using hu) fun h' st' sb=>?_
  have I1:Inv X pins σ H { s with heap:=h' }:=I.turned (t':=s.toks) (fun b o hb e=>(sb.2 b hb).trans e) f0 f1 f3 f4 f5
  obtain⟨o,e,c,d⟩:=id st'
  exact⟨u,rfl,AV (s:={ s with heap:=h' }) e c d (by decide) ⟨x,H,I1,ru,⟨rfl,fun ys hy=>by rw[I.pM hy hq];exact hx⟩,st',fun b hb=>(hf b hb).1⟩⟩
 done:=by
  intro X hP hw hK hc i pins s σ H E I hf st hg
  subst hP hw hK
  obtain⟨xs,hq,hx⟩:=hg
  obtain⟨its,rv,p,hz⟩:=I.list hq
  obtain⟨f0,f1,f2,f3,f4,f5⟩:=hf it (by simp)
  have hl:=rv.length
  exact wpAny_pyNext_list_end (I.ok.hd hc) st p.isList (by simp;omega) fun h' eb=>⟨rfl,I.turned (t':=s.toks) (fun b o hb e=>eb b o hb e) f0 f1 f3 f4 f5⟩
 self:=fun _ _ _ _ _ st h=>wpAny_pyIter_listiter st h
theorem xy {K:gV} (a it):Turn P w K tg (Itt K a) [it] it (fun i h=>h.IsTupleIter it a i) where
 mem:=by simp
 obj:=fun i h st b hb=>by
  have e:b=it:=by simp_all
  subst e
  obtain⟨o,e,c,d⟩:=st
  simp_all
 keep:=fun i h h' st k=>st.at fun o e=>k it (by simp) o e
 item:=by
  intro X hP hw hK hc i pins s σ H E I hf st hg
  subst hP hw hK
  obtain⟨xs,x,hq,hx⟩:=hg
  obtain⟨its,rv,p,hz⟩:=I.tuple hq
  obtain⟨u,hu,ru⟩:=rv.get hx
  obtain⟨f0,f1,f2,f3,f4,f5⟩:=hf it (by simp)
  refine wpAny_pyNext_tuple_item st (show s.heap.IsTuple a its.toArray from p) (x:=u) (by simp_all) fun h' st' sb=>?_
  have I1:Inv X pins σ H { s with heap:=h' }:=I.turned (t':=s.toks) (fun b o hb e=>(sb.2 b hb).trans e) f0 f1 f3 f4 f5
  obtain⟨o,e,c,d⟩:=id st'
  exact⟨u,rfl,AV (s:={ s with heap:=h' }) e c d (by decide) ⟨x,H,I1,ru,⟨rfl,fun ys hy=>by rw[I.lX hy hq];exact hx⟩,st',fun b hb=>(hf b hb).1⟩⟩
 done:=by
  intro X hP hw hK hc i pins s σ H E I hf st hg
  subst hP hw hK
  obtain⟨xs,hq,hx⟩:=hg
  obtain⟨its,rv,p,hz⟩:=I.tuple hq
  obtain⟨f0,f1,f2,f3,f4,f5⟩:=hf it (by simp)
  have hl:=rv.length
  exact wpAny_pyNext_tuple_end (I.ok.hd hc) st (show s.heap.IsTuple a its.toArray from p) (by grind) fun h' eb=>⟨rfl,I.turned (t':=s.toks) (fun b o hb e=>eb b o hb e) f0 f1 f3 f4 f5⟩
 self:=fun _ _ _ _ _ st h=>wpAny_pyIter_tupleiter st h
theorem xO {K:gV} (it) (lo) (n):Turn P w K tg (Itr lo n) [it] it (fun i h=>IsRangeIter h it (lo+(i:Nat)*1) ((n:Int) - (i:Nat)) 1) where
 mem:=by simp
 obj:=fun i h st b hb=>by
  simp_all
 keep:=fun i h h' st k=>k it (by simp) _ st
 item:=by
  intro X hP hw hK hc i pins s σ H E I hf st hg
  subst hP hw hK
  obtain⟨f0,f1,f2,f3,f4,f5⟩:=hf it (by simp)
  have W:=T4.range (prog:=X.prog) (w:=X.w) (I.ok.hd hc) it lo 1 n
  refine W.item i s _ _ hg st fun v h' tk hv st' kk=>?_
  obtain⟨t,rfl⟩:=hv
  have I1:Inv X pins σ H { s with heap:=h',toks:=tk }:=I.turned (fun b o hb e=>kk b o (by simp_all) e) f0 f1 f3 f4 f5
  refine⟨_,rfl,AV (s:={ s with heap:=h',toks:=tk }) (n:="range_iterator") st' rfl rfl (by decide) ⟨.int (lo+i),H,I1,⟨t,?_⟩,⟨rfl,rfl⟩,st',fun b hb=>(hf b hb).1⟩⟩
  simp
 done:=by
  intro X hP hw hK hc i pins s σ H E I hf st hg
  subst hP hw hK
  obtain⟨f0,f1,f2,f3,f4,f5⟩:=hf it (by simp)
  exact wpAny_pyNext_range_end (I.ok.hd hc) st (by have:n<=i:=hg;lia) fun h' eb=>⟨rfl,I.turned (t':=s.toks) (fun b o hb e=>eb b o hb e) f0 f1 f3 f4 f5⟩
 self:=fun _ _ _ _ _ st h=>wpAny_pyIter_rangeiter st h
section
variable {X:Cx}{tg:Expr}
theorem vP {σ:St}{lo hi:Int} (I:Inv X pins σ H s) (h1:-(2 ^ 62)<=lo) (h2:lo<2 ^ 62) (h3:-(2 ^ 62)<=hi) (h4:hi<2 ^ 62)
  (q:R (Itr lo (hi - lo).toNat) H):wpAny (model X.prog X.w) X.A (pyIter (.ref s.heap.objs.size)) (PIE X pins σ tg R) E { s with heap:=s.heap.push { cls:=.type "range", data:=.fields #[.int lo t,.int hi u,.int 1 v] },toks:=tk }:=by
 refine wpAny_pyIter_range (T5.new ..) (small_one h1 h2 h3 h4) ?_
 have I1:Inv X pins σ H { s with heap:=s.heap.push { cls:=.type "range", data:=.fields #[.int lo t,.int hi u,.int 1 v] },toks:=tk }:=I.kept fun b o e=>k5 _ e
 refine⟨(s.heap.push { cls:=.type "range", data:=.fields #[.int lo t,.int hi u,.int 1 v] }).objs.size,[(s.heap.push { cls:=.type "range", data:=.fields #[.int lo t,.int hi u,.int 1 v] }).objs.size],_,_,H,rfl,
  I1.kept (t':=tk) fun b o e=>k5 _ e,xO _ lo (hi - lo).toNat,?_,fun b hb=>?_,q⟩
 ·have e1:lo+((0:Nat):Int)*1=lo:=by simp
  have e2:(((hi - lo).toNat:Nat):Int) - ((0:Nat):Int)=Pw lo hi 1:=by rw[rangeSize_one];lia
  show IsRangeIter _ _ (lo+((0:Nat):Int)*1) ((((hi - lo).toNat:Nat):Int) - ((0:Nat):Int)) 1
  rw[e1,e2]
  exact NH _ rfl
 ·have e:b=(s.heap.push { cls:=.type "range", data:=.fields #[.int lo t,.int hi u,.int 1 v] }).objs.size:=by simp_all
  subst e
  exact I1.Ey (NC _) (I1.hok.fresh (NC _))
noncomputable def Jl (ta:TA):TI:=fun σ H R=>ta σ H fun vs H1=>∃j:Int,vs=[.int j]/\-(2 ^ 62)<=j/\j<2 ^ 62/\R (Itr 0 j.toNat) H1
noncomputable def I0 (ta:TA):TI:=fun σ H R=>ta σ H fun vs H1=>∃i j:Int,vs=[.int i,.int j]/\(-(2 ^ 62)<=i/\i<2 ^ 62/\-(2 ^ 62)<=j/\j<2 ^ 62)/\R (Itr i (j - i).toNat) H1
theorem Aj {a:Expr}{ta:TA}{p pos:Pos} (hg:Gl X "range") (hm:X.mg "range" = none) (ha:PA X [a] ta) (hs:starEach [a] X.env=[(false,eval a X.env)]:=by rfl):PI X tg (.Call (.Name "range" p) [a] [] pos) (Jl ta):=by
 intro pins s σ H R I h
 refine Call_ (lJ I hg hm boot_range (PF (thn (ha pos pins s σ H _ I h) fun us s1 ⟨vs,H1,I1,r1,q1⟩=>?_) hs rfl))
 obtain⟨j,e,q1,q2,q⟩:=q1
 subst e
 cases r1 with
 | cons r rr=>
  cases rr
  obtain⟨t,rfl⟩:=r
  exact call_range_1 (vP I1 (by lia) (by lia) q1 q2 (by simp_all))
theorem zI {a b:Expr}{ta:TA}{p pos:Pos} (hg:Gl X "range") (hm:X.mg "range" = none) (ha:PA X [a,b] ta) (hs:starEach [a,b] X.env=[(false,eval a X.env),(false,eval b X.env)]:=by rfl) (hs2:starEach [b] X.env=[(false,eval b X.env)]:=by rfl) :
  PI X tg (.Call (.Name "range" p) [a,b] [] pos) (I0 ta):=by
 intro pins s σ H R I h
 refine Call_ (lJ I hg hm boot_range (PF (thn (ha pos pins s σ H _ I h) fun us s1 ⟨vs,H1,I1,r1,q1⟩=>?_) (by rw[hs,hs2]) (by rw[hs2];rfl)))
 obtain⟨i,j,e,⟨q1,q2,q3,q4⟩,q⟩:=q1
 subst e
 cases r1 with
 | cons r rr=>
  cases rr with
  | cons r' rr=>
   cases rr
   obtain⟨t,rfl⟩:=r
   obtain⟨t',rfl⟩:=r'
   exact call_range_2 (vP I1 q1 q2 q3 q4 q)
noncomputable def LA (wi:TI) (g:TG) (tb:TS):TS:=fun D σ H=>wi σ H fun J H1=>∃W:Nat->Nat->St->Hp->Prop,(∃m,W 0 m σ H1)/\∀i m σ H,W i m σ H →
 (J.stop i H/\D.nx σ H)\/(J.go i H/\∃N:St->Hp->Prop,(∀σ' H',N σ' H'->∃m',m'<m/\W (i+1) m' σ' H')/\∀x H',J.yld i H x H'->g x σ H' fun σ2 H2=>tb { D with nx:=N,ct:=N,bk:=D.nx } σ2 H2)
noncomputable def i8 (fp:List Addr) (h:Heap):List (Addr × Obj):=fp.filterMap fun b=>(h.get? b).map fun o=>(b,o)
theorem dO (hb:b∈fp) (e:h.get? b=some o):(b,o)∈i8 fp h:=List.mem_filterMap.mpr ⟨b,hb,by grind⟩
theorem zL (hp:p∈i8 fp h):p.1∈fp/\h.get? p.1=some p.2:=by
 obtain⟨b,hb,e⟩:=List.mem_filterMap.mp hp
 cases q:h.get? b with
 | none=>simp_all
 | some o=>
  grind
theorem Inv.pinned {pins:List (Addr × Obj)}{σ:St}{H:Hp}{s:NF}{fp:List Addr} (I:Inv X pins σ H s) (hf:∀b∈fp,m7 X pins H b) (ho:∀b∈fp,∃o,s.heap.get? b=some o/\∀v,o.data≠.cell v):Inv X (pins++i8 fp s.heap) σ H s:=
 I.kX fun p hp=>(Oe.mp hp).elim (fun z=>I.pin p (NI _ z)) fun z=>by
  obtain⟨hb,e⟩:=zL z
  obtain⟨f0,f1,f2,_⟩:=hf p.1 hb
  obtain⟨o,e',d⟩:=ho p.1 hb
  rw[e] at e';cases e'
  exact⟨e,f0,f1,f2,d⟩
theorem Inv.gY {σ:St} (I:Inv X (pins++pl) σ H s):Inv X pins σ H s:=I.kX fun p hp=>I.pin p (NI _ (QH _ hp))
theorem G9 {iter:Expr}{body:List Stmt}{wi:TI}{g:TG}{tb:TS}{pos:Pos} (hp:Tr (model X.prog X.w) X.A X.env X.xe) (hc:X.calm=true) (hi:PI X tg iter wi) (hg:PG X tg g) (hb:PSs X body tb)
  (hs:∀x,foldedSetIterable iter X.env x=pure x:=by intro _;rfl):PS X (.For tg iter body [] pos) (LA wi g tb):=by
 intro pins s σ H D I h
 refine wpAny_For (thn (hi pins s σ H _ I h) fun v s1 h1=>thn h1 fun itv s2 h2=>?_) hs
 obtain⟨it,fp,tn,J,H2,e,I2,T,st2,f2,W,⟨m0,w0⟩,turn⟩:=h2
 subst e
 -- what stays true of the iterator's objects through the loop
 have stat:∀{H':Hp},(∀b∈fp,H' b=none)->∀b∈fp,m7 X pins H' b:=fun hn b hb=>⟨hn b hb,(f2 b hb).2⟩
 refine codeAny_forLoop_any (fun n s'=>∃i σ' H',Inv X pins σ' H' s'/\tn i s'.heap/\(∀b∈fp,H' b=none)/\W i n σ' H') ?_ m0 ⟨0,σ,H2,I2,st2,fun b hb=>(f2 b hb).1,w0⟩
 rintro n s3 ⟨i,σ3,H3,I3,st3,fr3,w3⟩
 rcases turn i n σ3 H3 w3 with⟨stop,qn⟩ | ⟨go,N,hN,step⟩
 ·refine P8 hp (thn (T.done X rfl rfl rfl hc i pins s3 σ3 H3 X.xe I3 (stat fr3) st3 stop) fun r s4 ⟨hr,I4⟩=>?_)
  subst hr
  exact RA ⟨σ3,H3,I4,qn⟩
 ·refine P8 hp (thn (T.item X rfl rfl rfl hc i pins s3 σ3 H3 X.xe I3 (stat fr3) st3 go) fun r s4 ⟨u,hr,h4⟩=>?_)
  subst hr
  refine P8 hp (thn h4 fun _ s5 ⟨x,H5,I5,r5,y5,st5,fr5⟩=>?_)
  have I5':=I5.pinned (stat fr5) (T.obj _ _ st5)
  refine P8 hp (thn (hg _ s5 σ3 H5 x u _ I5' r5 (step x H5 y5)) fun _ s6 ⟨σ6,H6,I6,q6⟩=>?_)
  refine P8 hp (thn (hb _ s6 σ6 H6 _ I6 q6) fun f s7 q7=>?_)
  have again:∀{σ7:St} {H7:Hp},Inv X (pins++i8 fp s5.heap) σ7 H7 s7->N σ7 H7->∃m,m<n/\∃i σ' H',Inv X pins σ' H' s7/\tn i s7.heap/\(∀b∈fp,H' b=none)/\W i m σ' H':=fun{σ7 H7} I7 n7=>by
   obtain⟨m',hm,w7⟩:=hN σ7 H7 n7
   refine⟨m',hm,i+1,σ7,H7,I7.gY,T.keep _ _ _ st5 fun b hb o e=>(I7.pin (b,o) (NI _ (NI _ (dO hb e)))).1,fun b hb=>?_,w7⟩
   obtain⟨o,e,d⟩:=T.obj _ _ st5 b hb
   exact(I7.pin (b,o) (NI _ (NI _ (dO hb e)))).2.1
  cases f with
  | next=>obtain⟨σ7,H7,I7,n7⟩:=q7;exact again I7 n7
  | cont=>obtain⟨σ7,H7,I7,n7⟩:=q7;exact again I7 n7
  | brk=>obtain⟨σ7,H7,I7,q7⟩:=q7;exact⟨σ7,H7,I7.gY,q7⟩
  | ret v=>obtain⟨x7,σ7,H7,I7,r7,q7⟩:=q7;exact⟨x7,σ7,H7,I7.gY,r7,q7⟩
end
noncomputable abbrev R2:=V->V->Hp->VK->Prop
noncomputable def OpR (X:Cx) (f:NB->NB->Sem NB) (r:R2):Prop:=
 ∀pins s (σ:St) H x y v u Q , Inv X pins σ H s->RelV x v->RelV y u->r x y H Q →
  wpAny (model X.prog X.w) X.A (f v u) (EP X pins σ Q) X.xe s
noncomputable def UnR (X:Cx) (f:NB->Sem NB) (r:V->Hp->VK->Prop):Prop:=
 ∀pins s (σ:St) H x v Q , Inv X pins σ H s->RelV x v->r x H Q →
  wpAny (model X.prog X.w) X.A (f v) (EP X pins σ Q) X.xe s
noncomputable def cb (X:Cx) (f:NB) (r:List V->Hp->VK->Prop):Prop:=
 ∀pins s (σ:St) H xs us Q , Inv X pins σ H s->Vals xs us->r xs H Q →
  wpAny (model X.prog X.w) X.A (call f us) (EP X pins σ Q) X.xe s
noncomputable def L5 (X:Cx) (r:V->Hp->(Bool->Hp->Prop)->Prop):Prop:=
 ∀pins s (σ:St) H x v Q , Inv X pins σ H s->RelV x v->r x H Q →
  wpAny (model X.prog X.w) X.A (truthy v) (TP X pins σ Q) X.xe s
noncomputable def tOp (r:R2) (ta tb:TE):TE:=fun σ H Q=>ta σ H fun x H1=>tb σ H1 fun y H2=>r x y H2 Q
noncomputable def tUn (r:V->Hp->VK->Prop) (ta:TE):TE:=fun σ H Q=>ta σ H fun x H1=>r x H1 Q
noncomputable def rI (C:Int->Int->Prop) (g:Int->Int->V):R2:=fun x y H Q=>∃i j,x=.int i/\y=.int j/\C i j/\Q (g i j) H
noncomputable def rI0 (g:Int->Int->V):R2:=fun x y H Q=>∃i j,x=.int i/\y=.int j/\Q (g i j) H
noncomputable def rU (g:Int->V):V->Hp->VK->Prop:=fun x H Q=>∃i,x=.int i/\Q (g i) H
section
variable {X:Cx}{a b c:Expr}{ta tb tc:TE}{pos:Pos}
theorem Ip (ha:PE X a ta) (hb:PE X b tb){pins:List (Addr × Obj)}{s:NF}{σ:St}{H:Hp}{R:V->V->Hp->Prop} (I:Inv X pins σ H s)
  (h:ta σ H fun x H1=>tb σ H1 fun y H2=>R x y H2) {Q:NB->NF->Prop} {f:NB->NB->Sem NB}
  (hf:∀v u s2 x y H2,Inv X pins σ H2 s2->RelV x v->RelV y u->R x y H2->wpAny (model X.prog X.w) X.A (f v u) Q X.xe s2) :
  wpAny (model X.prog X.w) X.A (eval a X.env) (fun v s₁=>wpAny (model X.prog X.w) X.A (eval b X.env) (fun u s₂=>wpAny (model X.prog X.w) X.A (f v u) Q X.xe s₂) X.xe s₁) X.xe s:=by
 refine thn (ha pins s σ H _ I h) fun v s1 ⟨x,H1,I1,r1,q1⟩=>?_
 refine thn (hb pins s1 σ H1 _ I1 q1) fun u s2 ⟨y,H2,I2,r2,q2⟩=>?_
 exact hf v u s2 x y H2 I2 r1 r2 q2
theorem I_ (ho:OpR X (binaryOp op) r) (ha:PE X a ta) (hb:PE X b tb):PE X (.BinOp a op b pos) (tOp r ta tb):=by
 intro pins s σ H Q I h
 exact wpAny_BinOp (Ip ha hb I h fun v u s2 x y H2 I2 rx ry q=>ho pins s2 σ H2 x y v u Q I2 rx ry q)
theorem IM {op:UnaryOp}{r:V->Hp->VK->Prop} (ho:UnR X (unaryOp op) r) (ha:PE X a ta):PE X (.UnaryOp op a pos) (tUn r ta):=by
 intro pins s σ H Q I h
 exact UnaryOp_ (thn (ha pins s σ H _ I h) fun v s1 ⟨x,H1,I1,r1,q1⟩=>ho pins s1 σ H1 x v Q I1 r1 q1)
theorem opI {g:Int->Int->Int}
  (rule:∀i j t u s Q E , C i j->Q (.int (g i j) s.toks) { s with toks:=s.toks+1 }->wpAny (model X.prog X.w) X.A (f (.int i t) (.int j u)) Q E s) :
  OpR X f (rI C fun i j=>.int (g i j)):=by
 intro pins s σ H x y v u Q I rx ry h
 obtain⟨i,j,rfl,rfl,hc,q⟩:=h
 obtain⟨t,rfl⟩:=rx
 obtain⟨t',rfl⟩:=ry
 exact rule i j t t' s _ _ hc ⟨.int (g i j),H,I.tok _,⟨_,rfl⟩,q⟩
theorem IL {g:Int->Int->Int}
  (rule:∀i j t u s Q E , Q (.int (g i j) s.toks) { s with toks:=s.toks+1 }->wpAny (model X.prog X.w) X.A (f (.int i t) (.int j u)) Q E s) :
  OpR X f (rI0 fun i j=>.int (g i j)):=by
 intro pins s σ H x y v u Q I rx ry h
 obtain⟨i,j,rfl,rfl,q⟩:=h
 obtain⟨t,rfl⟩:=rx
 obtain⟨t',rfl⟩:=ry
 exact rule i j t t' s _ _ ⟨.int (g i j),H,I.tok _,⟨_,rfl⟩,q⟩
theorem Eu {g:Int->Int->Bool}
  (rule:∀i j t u s Q E , Q (.bool (g i j)) s->wpAny (model X.prog X.w) X.A (f (.int i t) (.int j u)) Q E s) :
  OpR X f (rI0 fun i j=>.bl (g i j)):=by
 intro pins s σ H x y v u Q I rx ry h
 obtain⟨i,j,rfl,rfl,q⟩:=h
 obtain⟨t,rfl⟩:=rx
 obtain⟨t',rfl⟩:=ry
 exact rule i j t t' s _ _ ⟨.bl (g i j),H,I,rfl,q⟩
theorem GS:OpR X (binaryOp .Add) (rI0 fun i j=>.int (i+j)):=IL fun _ _ _ _ _ _ _ q=>add_int q
theorem GY:OpR X (binaryOp .Sub) (rI0 fun i j=>.int (i - j)):=IL fun _ _ _ _ _ _ _ q=>sub_int q
theorem Gy:OpR X (binaryOp .Mod) (rI (fun _ j=>0<j) fun i j=>.int (i % j)):=opI fun i j _ _ _ _ _ hc q=>by
 have h1:(0:Int)<j:=hc
 exact mod_int' (by omega) (by rw[Int.fmod_eq_emod_of_nonneg i (by omega)];exact q)
theorem unI {g:Int->Int}
  (rule:∀i t s Q E , Q (.int (g i) s.toks) { s with toks:=s.toks+1 }->wpAny (model X.prog X.w) X.A (f (.int i t)) Q E s) :
  UnR X f (rU fun i=>.int (g i)):=by
 intro pins s σ H x v Q I rx h
 obtain⟨i,rfl,q⟩:=h
 obtain⟨t,rfl⟩:=rx
 exact rule i t s _ _ ⟨.int (g i),H,I.tok _,⟨_,rfl⟩,q⟩
theorem iP:UnR X (unaryOp .USub) (rU fun i=>.int (-i)):=unI fun _ _ _ _ _ q=>neg_int q
end
section
variable {X:Cx}{a b c:Expr}{ta tb tc:TE}{pos:Pos}
theorem Bo:OpR X (compareOp .Lt) (rI0 fun i j=>.bl (decide (i<j))):=Eu fun _ _ _ _ _ _ _ q=>lt_int q
theorem rO:OpR X (compareOp .LtE) (rI0 fun i j=>.bl (decide (i<=j))):=Eu fun _ _ _ _ _ _ _ q=>le_int q
theorem Jh:OpR X (compareOp .Gt) (rI0 fun i j=>.bl (decide (j<i))):=Eu fun _ _ _ _ _ _ _ q=>gt_int q
theorem Kt:OpR X (compareOp .GtE) (rI0 fun i j=>.bl (decide (j<=i))):=Eu fun _ _ _ _ _ _ _ q=>ge_int q
theorem bD (b) (h:op≠.In:=by decide) (h2:op≠.NotIn:=by decide):behindInMarks op b=false:=by
 have e1:(op == CmpOp.In)=false:=by simp_all
 have e2:(op == CmpOp.NotIn)=false:=by simp_all
 cases b<;>simp[behindInMarks,e1,e2]
theorem EC (ho:OpR X (compareOp op) r) (ha:PE X a ta) (hb:PE X b tb) (hm:behindInMarks op b=false):PE X (.Compare a [op] [b] pos) (tOp r ta tb):=by
 intro pins s σ H Q I h
 exact wpAny_Compare1 (Ip ha hb I h fun v u s2 x y H2 I2 rx ry q=>ho pins s2 σ H2 x y v u Q I2 rx ry q) hm
noncomputable def A8 (t:TE):TT:=fun σ H Q=>t σ H fun x H'=>∃k,x=.bl k/\Q k H'
theorem EX {op:CmpOp}{r:R2} (ho:OpR X (compareOp op) r) (ha:PE X a ta) (hb:PE X b tb) (hm:behindInMarks op b=false):PT X (.Compare a [op] [b] pos) (A8 (tOp r ta tb)):=by
 intro pins s σ H Q I h
 refine wpAny_isTrue_Compare1 (thn (ha pins s σ H _ I h) fun v s1 ⟨x,H1,I1,r1,q1⟩=>thn (hb pins s1 σ H1 _ I1 q1) fun u s2 ⟨y,H2,I2,r2,q2⟩=>
  thn (ho pins s2 σ H2 x y v u _ I2 r1 r2 q2) fun c s3 ⟨z,H3,I3,r3,k,e,q3⟩=>?_) hm
 subst e
 cases r3
 exact PB ⟨H3,I3,q3⟩
noncomputable def wH (r r':R2) (ta tb tc:TE):TE:=fun σ H Q=>ta σ H fun x H1=>tb σ H1 fun y H2=>r x y H2 fun z H3=>∃k,z=.bl k ∧
 (if k=true then tc σ H3 fun w' H4=>r' y w' H4 Q else Q (.bl false) H3)
theorem BI {op op':CmpOp}{r r':R2} (ho:OpR X (compareOp op) r) (ho':OpR X (compareOp op') r') (ha:PE X a ta) (hb:PE X b tb) (hc:PE X c tc)
  (hm:lastMarks [op,op'] [b,c]=false:=by with_unfolding_all rfl):PE X (.Compare a [op,op'] [b,c] pos) (wH r r' ta tb tc):=by
 intro pins s σ H Q I h
 refine Compare_chain (thn (ha pins s σ H _ I h) fun v s1 ⟨x,H1,I1,r1,q1⟩=>chain_link (thn (hb pins s1 σ H1 _ I1 q1) fun u s2 ⟨y,H2,I2,r2,q2⟩=>
  thn (ho pins s2 σ H2 x y v u _ I2 r1 r2 q2) fun d s3 ⟨z,H3,I3,r3,k,e,q3⟩=>?_)) hm
 subst e
 cases r3
 refine PB ?_
 cases k with
 | false=>exact ite_ff ⟨.bl false,H3,I3,rfl,q3⟩
 | true=>exact ite_tt (chain_last (thn (hc pins s3 σ H3 _ I3 q3) fun w' s4 ⟨z',H4,I4,r4,q4⟩=>ho' pins s4 σ H4 y z' u w' Q I4 r2 r4 q4))
theorem B4 {op op':CmpOp}{r r':R2} (ho:OpR X (compareOp op) r) (ho':OpR X (compareOp op') r') (ha:PE X a ta) (hb:PE X b tb) (hc:PE X c tc)
  (hm:lastMarks [op,op'] [b,c]=false:=by with_unfolding_all rfl):PT X (.Compare a [op,op'] [b,c] pos) (A8 (wH r r' ta tb tc)):=by
 intro pins s σ H Q I h
 refine isTrue_chain (thn (ha pins s σ H _ I h) fun v s1 ⟨x,H1,I1,r1,q1⟩=>test_link (thn (hb pins s1 σ H1 _ I1 q1) fun u s2 ⟨y,H2,I2,r2,q2⟩=>
  thn (ho pins s2 σ H2 x y v u _ I2 r1 r2 q2) fun d s3 ⟨z,H3,I3,r3,k,e,q3⟩=>?_)) hm
 subst e
 cases r3
 refine PB ?_
 cases k with
 | false=>
  obtain⟨k',e',q'⟩:=q3
  cases e'
  exact ite_ff ⟨H3,I3,q'⟩
 | true=>
  refine ite_tt (test_last (thn (hc pins s3 σ H3 _ I3 q3) fun w' s4 ⟨z',H4,I4,r4,q4⟩=>thn (ho' pins s4 σ H4 y z' u w' _ I4 r2 r4 q4) fun d' s5 ⟨z2,H5,I5,r5,k2,e2,q5⟩=>?_))
  subst e2
  cases r5
  exact PB ⟨H5,I5,q5⟩
noncomputable def ET (K:gV) (x:V) (H:Hp) (k:Bool):Prop:=
 match x with
 | .non=>k=false
 | .bl b=>k=b
 | .int i=>k=(i != 0)
 | .str y=>y.length<=sizeLine/\k=((y.length:Int) != 0)
 | .byt y=>y.size<=sizeLine/\k=((y.size:Int) != 0)
 | .ref p=>(∃xs,SqL K H p xs/\k = !xs.isEmpty)\/(∃xs,SqT K H p xs/\k = !xs.isEmpty)\/∃kvs,H p=some (.dK kvs)/\k = !kvs.isEmpty
 | _=>False
theorem wY (r:KV kvs vs):(!vs.isEmpty) = !kvs.isEmpty:=by
 cases r<;>rfl
theorem pP (r:Vals xs its):(!its.toArray.isEmpty) = !xs.isEmpty:=by
 cases r<;>simp
theorem ju:(sizeLine:Nat)<2 ^ 63:=by rw[O5];decide
theorem Gz:L5 X (fun x H Q=>∃k,ET X.K x H k/\Q k H):=by
 intro pins s σ H x v Q I rx h
 obtain⟨k,e,q⟩:=h
 have hl:=ju
 have hs:sizeLine=16777216:=O5
 cases x with
 | non=>
  cases rx
  have e':k=false:=e
  subst e'
  exact truthy_none ⟨H,I,q⟩
 | bl b=>
  cases rx
  have e':k=b:=e
  subst e'
  exact PB ⟨H,I,q⟩
 | int i=>
  obtain⟨t,rfl⟩:=rx
  have e':k=(i != 0):=e
  subst e'
  exact PySem.P.truthy_int ⟨H,I,q⟩
 | str y=>
  obtain⟨t,rfl⟩:=rx
  obtain⟨hy,e'⟩:y.length<=sizeLine/\k=((y.length:Int) != 0):=e
  subst e'
  exact PySem.P.truthy_str (by lia) ⟨H,I.tok _,q⟩
 | byt y=>
  obtain⟨t,rfl⟩:=rx
  obtain⟨hy,e'⟩:y.size<=sizeLine/\k=((y.size:Int) != 0):=e
  subst e'
  exact PySem.W.truthy_bytes (by lia) ⟨H,I.tok _,q⟩
 | ref p=>
  cases rx
  have e':(∃xs,SqL X.K H p xs/\k = !xs.isEmpty)\/(∃xs,SqT X.K H p xs/\k = !xs.isEmpty)\/∃kvs,H p=some (.dK kvs)/\k = !kvs.isEmpty:=e
  rcases e' with⟨xs,hx,e'⟩ | ⟨xs,hx,e'⟩ | ⟨kvs,hx,e'⟩
  ·subst e'
   obtain⟨its,r,pl,hz⟩:=I.list hx
   have hlen:=r.length
   exact wpAny_truthy_list pl.isList (by grind) ⟨H,I.tok _,by rw[pP r];exact q⟩
  ·subst e'
   obtain⟨its,r,pl,hz⟩:=I.tuple hx
   have hlen:=r.length
   exact truthy_tuple pl (by grind) ⟨H,I.tok _,by rw[pP r];exact q⟩
  ·subst e'
   obtain⟨hz,hS,vs,r,m⟩:kvs.length<=sizeLine/\(p == sysModules)=false/\∃vs,KV kvs vs/\s.heap.DictOf (ue X.prog X.w) p vs:=I.hok p _ hx
   have hlen:kvs.length=vs.length:=Paired.length r
   exact wpAny_truthy_dict hS m (by lia) ⟨H,I.tok _,by rw[wY r];exact q⟩
 | _=>exact(show False from e).elim
theorem Bx (ha:PE X a ta) (he:∀whole,isTrue a X.env whole=(do let v ← whole;standAt a.pos;holding [v] (truthy v))) :
  PT X a (fun σ H Q=>ta σ H fun x H'=>∃k,ET X.K x H' k/\Q k H'):=by
 intro pins s σ H Q I h
 exact isTrue_plain (thn (ha pins s σ H _ I h) fun v s1 ⟨x,H1,I1,r1,q1⟩=>Gz pins s1 σ H1 x v Q I1 r1 q1) (he _)
theorem xR:OpR X (binaryOp .Add) (fun x y H Q=>∃i j,x=.str i/\y=.str j/\i.length+j.length<=sizeLine/\Q (.str (i++j)) H):=by
 intro pins s σ H x y v u Q I rx ry h
 obtain⟨i,j,rfl,rfl,hz,q⟩:=h
 obtain⟨t,rfl⟩:=rx
 obtain⟨t',rfl⟩:=ry
 exact add_str (fun t' tk=>⟨.str (i++j),H,I.tok _,⟨_,rfl⟩,q⟩) hz
theorem vals1 (r:Vals [x] us):∃u,us=[u]/\RelV x u:=by
 cases r with
 | cons r1 r2=>cases r2;simp_all
theorem vals2 (r:Vals [x,y] us):∃u w',us=[u,w']/\RelV x u/\RelV y w':=by
 cases r with
 | cons r1 r2=>
  cases r2 with
  | cons r3 r4=>cases r4;grind
theorem AB (hc:X.calm=true):cb X (.builtin "max") (fun xs H Q=>∃i j,xs=[.int i,.int j]/\Q (.int (if j > i then j else i)) H):=by
 intro pins s σ H xs us Q I r h
 obtain⟨i,j,rfl,q⟩:=h
 obtain⟨u,w',rfl,⟨t,rfl⟩,⟨t',rfl⟩⟩:=vals2 r
 refine max_two_ints (I.ok.hd hc) fun h' tk k=>⟨_,H,I.kept k,?_,q⟩
 by_cases hj:j > i
 ·rw[if_pos hj,if_pos hj];exact⟨_,rfl⟩
 ·rw[if_neg hj,if_neg hj];exact⟨_,rfl⟩
theorem Aa (hc:X.calm=true):cb X (.builtin "min") (fun xs H Q=>∃i j,xs=[.int i,.int j]/\Q (.int (if j<i then j else i)) H):=by
 intro pins s σ H xs us Q I r h
 obtain⟨i,j,rfl,q⟩:=h
 obtain⟨u,w',rfl,⟨t,rfl⟩,⟨t',rfl⟩⟩:=vals2 r
 refine min_two_ints (I.ok.hd hc) fun h' tk k=>⟨_,H,I.kept k,?_,q⟩
 by_cases hj:j<i
 ·rw[if_pos hj,if_pos hj];exact⟨_,rfl⟩
 ·rw[if_neg hj,if_neg hj];exact⟨_,rfl⟩
theorem qW:cb X (.type "int") (fun xs H Q=>(∃i,xs=[.int i]/\Q (.int i) H)\/∃k,xs=[.bl k]/\Q (.int (if k then 1 else 0)) H):=by
 intro pins s σ H xs us Q I r h
 rcases h with⟨i,rfl,q⟩ | ⟨k,rfl,q⟩
 ·obtain⟨u,rfl,t,rfl⟩:=vals1 r
  exact call_int_int ⟨.int i,H,I,⟨_,rfl⟩,q⟩
 ·obtain⟨u,rfl,r1⟩:=vals1 r
  cases r1
  exact call_int_bool ⟨.int (if k then 1 else 0),H,I.tok _,⟨_,rfl⟩,q⟩
end
structure Iq (h:Heap) (x dx C) (mA):Prop where
 obj:h.get? x=some (Sj C dx)
 ns:h.Ns1 dx mA
 ne:dx≠x
theorem Ag {h:Heap} (n:h.Ns1 dx mA):∃od,h.get? dx=some od/\∀name,SG name od=some (mA name):=by
 obtain⟨o,es,ep,ho,hd,hk,_,hm⟩:=n
 refine⟨o,ho,fun name=>?_⟩
 have e:=hm name
 unfold nsFind findBy at e
 rw[<- Array.find?_toList] at e
 unfold SG
 rw[hd]
 dsimp only
 split
 ·simp_all
 ·rename_i q
  rw[q] at e
  have a:es.toList.any (·.refKey)=false:=by
   rw[Rb]
   intro y hy
   obtain⟨z,t,hkey⟩:=hk y (Pf.mp hy)
   simp[DictEntry.refKey,hkey]
  simp_all
theorem Iq.look {h:Heap}{x dx C:Addr}{mA:Str->Option NB} (I:Iq h x dx C mA):∃od,PySem.W.InstAt h x (Sj C dx) C (some od)/\∀name,SG name od=some (mA name):=
 let ⟨od,ho,hl⟩:=Ag I.ns
 ⟨od,⟨I.obj,rfl,rfl,ho⟩,hl⟩
section
variable {P:NW}{w:Oo}{H H':Hp}{h h':Heap}{a C dx:Addr}{fs fs':List (Str × V)}
theorem Ei (hok:HOk P w H h) (e:H a=some (.ins C dx fs)):∃mA,Iq h a dx C mA/\(∀f,HY (fs.lookup f) (mA f))/\PySem.Within mA (fs.map (·.1))/\fs.length<=1000/\H dx=some (.own a):=by
 obtain⟨d,z,ne,ob,mA,n,r,q⟩:=(show c6 P w H h a (.ins C dx fs) from hok a _ e)
 exact⟨mA,⟨ob,n,ne⟩,r,q,z,d⟩
end
structure Cls (K) (C):Prop where
 pg:PySem.W.plainGet K C Str.empty=true
 hd:PySem.W.hasDictIn K C=true
 po:PySem.W.plainOver K C=true
 sa:PySem.W.findIn K (.ref C) "__setattr__" = some (some (.builtin "object.__setattr__"))
theorem Cls.get {K:gV} (c:Cls K C) (f):PySem.W.plainGet K C f=true:=c.pg
section
variable {X:Cx}{pins:List (Addr × Obj)}{σ:St}{H:Hp}{s:NF}{A:Om}{E:NB->NF->Prop}{Q:NB->NF->Prop}{c:NB}{b:Bool}
inductive ki (K) (H:Hp):V->NB->Prop where
 | non:ki K H .non (.type "NoneType")
 | bl (x):ki K H (.bl x) (.type "bool")
 | int (i):ki K H (.int i) (.type "int")
 | str (x):ki K H (.str x) (.type "str")
 | flt (x):ki K H (.flt x) (.type "float")
 | lst (e:H a=some (.lst xs)):ki K H (.ref a) (.type "list")
 | frz (e:H a=some (.frz o (.lst xs))):ki K H (.ref a) (.type "list")
 | tup (e:H a=some (.tup xs)):ki K H (.ref a) (.type "tuple")
 | hZ (e:H a=some (.frz o (.dK kvs))):ki K H (.ref a) (.type "dict")
 | dK (e:H a=some (.dK kvs)):ki K H (.ref a) (.type "dict")
 | dT (e:H a=some (.dT kvs)):ki K H (.ref a) (.type "dict")
 | ins (e:H a=some (.ins C dx fs)) (cl:Cls K C) (ha:PySem.W.findIn K (.ref C) "__class__" = some (some (.builtin "object.__class__")))
   (hn:PySem.W.specialIn K (.builtin "object.__class__") "__get__" = some (some (.builtin "getset_descriptor.__get__"))) (htk:PySem.W.takesIn K (.builtin "object.__class__")=some true)
   (hm:PySem.W.mroIn K C (.type "object")=some true):ki K H (.ref a) (.ref C)
theorem Av {x:V}{u t:NB} (I:Inv X pins σ H s) (rx:RelV x u) (ty:ki X.K H x t) (e:Pn X.K t c=some b) (h:∀tk,Q (.bool b) { s with toks:=tk }) :
  wpAny (model X.prog X.w) A (call (.builtin "isinstance") [u,c]) Q E s:=by
 cases ty with
 | non=>cases (show u=Qq from rx);exact OL PySem.W.kitx_none I.kIn SE e (fun z=>nomatch z) h
 | bl y=>cases (show u=Tx y from rx);exact OL PySem.W.kitx_bool I.kIn SE e (fun z=>nomatch z) h
 | int i=>obtain⟨t,q⟩:=(show ∃t,u=Qm i t from rx);cases q;exact OL PySem.W.kitx_int I.kIn SE e (fun z=>nomatch z) h
 | str y=>obtain⟨t,q⟩:=(show ∃t,u=TX y t from rx);cases q;exact OL PySem.W.kitx_str I.kIn SE e (fun z=>nomatch z) h
 | flt y=>obtain⟨t,q⟩:=(show ∃t,u=NB.float y t from rx);cases q;exact OL PySem.W.kitx_float I.kIn SE e (fun z=>nomatch z) h
 | @lst a xs ea=>
  cases (show u=Pr a from rx)
  obtain⟨_,_,n,_,h1⟩:=(show c6 X.prog X.w H s.heap a (.lst xs) from I.hok a _ ea)
  exact OL PySem.W.kitx_list I.kIn ⟨_,h1,rfl⟩ e (fun z=>nomatch z) h
 | @frz a ob xs ea=>
  cases (show u=Pr a from rx)
  obtain⟨_,_,_,n,_,h1⟩:=(show c6 X.prog X.w H s.heap a (.frz ob (.lst xs)) from I.hok a _ ea)
  exact OL PySem.W.kitx_list I.kIn ⟨_,h1,rfl⟩ e (fun z=>nomatch z) h
 | @tup a xs ea=>
  cases (show u=Pr a from rx)
  obtain⟨_,_,_,p⟩:=(show c6 X.prog X.w H s.heap a (.tup xs) from I.hok a _ ea)
  obtain⟨o,h1,⟨h2,_⟩,_⟩:=p
  exact OL PySem.W.kitx_tuple I.kIn ⟨o,h1,h2⟩ e (fun z=>nomatch z) h
 | @hZ a ob kvs ea=>
  cases (show u=Pr a from rx)
  obtain⟨_,_,_,vs,_,p⟩:=(show c6 X.prog X.w H s.heap a (.frz ob (.dK kvs)) from I.hok a _ ea)
  obtain⟨o,es,ep,h1,h2,_⟩:=p
  exact OL RW I.kIn ⟨o,h1,h2.1⟩ e (fun z=>nomatch z) h
 | @dK a kvs ea=>
  cases (show u=Pr a from rx)
  obtain⟨_,_,vs,_,p⟩:=(show c6 X.prog X.w H s.heap a (.dK kvs) from I.hok a _ ea)
  obtain⟨o,es,ep,h1,h2,_⟩:=p
  exact OL RW I.kIn ⟨o,h1,h2.1⟩ e (fun z=>nomatch z) h
 | @dT a kvs ea=>
  cases (show u=Pr a from rx)
  obtain⟨_,_,xs,_,o,es,ep,h1,h2,_⟩:=(show c6 X.prog X.w H s.heap a (.dT kvs) from I.hok a _ ea)
  exact OL RW I.kIn ⟨o,h1,h2.1⟩ e (fun z=>nomatch z) h
 | @ins a C dx fs ea cl ha hn htk hm=>
  cases (show u=Pr a from rx)
  obtain⟨mA,O,_⟩:=Ei I.hok ea
  obtain⟨od,J,_⟩:=O.look
  exact OL (PySem.W.kitx_own (cl.get _) cl.hd ha hn htk hm) I.kIn J e (fun z=>nomatch z) h
end
structure fD (k) (A:Om):Prop where
 hd:A.handled=none
 dp:A.depth+3*k+5<recursionLimit
 un:A.units+16*k+200<cLine
 gd:A.guards=some []
theorem fD.mono (r:fD k A) (h:j<=k):fD j A:=⟨r.hd,by have:=r.dp;lia,by have:=r.un;lia,r.gd⟩
theorem fD.deeper (r:fD (k+1) A) (env):fD k (A.deeper env):=
 ⟨r.hd,by have:=r.dp;show A.depth+1+3*k+5<_;lia,by have:=r.un;show A.units+3+16*k+200<_;lia,r.gd⟩
theorem fD.depth (r:fD k A):A.depth<recursionLimit:=by have:=r.dp;lia
theorem fD.units (r:fD k A):A.units+64<cLine:=by have:=r.un;lia
noncomputable def Ki:TA:=fun _ H Q=>Q [] H
noncomputable def FV (ta:TE) (tr:TA):TA:=fun σ H Q=>ta σ H fun x H1=>tr σ H1 fun xs H2=>Q (x::xs) H2
section
variable {X:Cx}{e:Expr}{es:List Expr}{te:TE}{t:TA}{pos:Pos}
theorem nK:PA X [] Ki:=fun _ _ _ _ H Q I h=>RX ⟨[],H,I,.nil,h⟩
theorem jG (ha:PE X e te) (hr:PA X es t) (hs:starEach (e::es) X.env=(false,eval e X.env)::starEach es X.env:=by rfl):PA X (e::es) (FV te t):=by
 intro pos pins s σ H Q I h
 rw[hs]
 show wpAny _ _ (spliced ((false,eval e X.env)::backTo pos (starEach es X.env))) _ _ s
 refine Qu (thn (ha pins s σ H _ I h) fun u s1 ⟨x,H1,I1,r1,q1⟩=>?_)
 exact thn (hr pos pins s1 σ H1 _ I1 q1) fun us s2 ⟨xs,H2,I2,r2,q2⟩=>⟨x::xs,H2,I2,.cons r1 r2,q2⟩
noncomputable def MG (t:TA):TE:=fun σ H Q=>t σ H fun xs H1=>xs.length<=sizeLine/\∀p,H1 p=none->Q (.ref p) (upd H1 p (.tup xs))
noncomputable def Lu (t:TA):TE:=fun σ H Q=>t σ H fun xs H1=>xs.length<=sizeLine/\∀p,H1 p=none->Q (.ref p) (upd H1 p (.lst xs))
theorem Ge {x1} (h:PA X es t):PE X (.Tuple es x1 pos) (MG t):=by
 intro pins s σ H Q I hq
 refine wpAny_Tuple_spliced (thn (h pos pins s σ H _ I hq) fun us s1 ⟨xs,H1,I1,r,z,q⟩=>⟨by rw[<- r.length];exact z,?_⟩)
 have hf:H1 s1.heap.objs.size=none:=I1.hok.fresh (NC _)
 refine⟨.ref s1.heap.objs.size,upd H1 s1.heap.objs.size (.tup xs),I1.laid (t':=s1.toks) (fun b u e=>k5 _ e) (NC _) ?_,rfl,q _ hf⟩
 exact⟨z,us,r,⟨_,NH _ rfl,⟨rfl,_,rfl⟩,rfl⟩⟩
theorem GZ (h:PA X es t):PE X (.List es pos) (Lu t):=by
 intro pins s σ H Q I hq
 refine wpAny_List_spliced (thn (h pos pins s σ H _ I hq) fun us s1 ⟨xs,H1,I1,r,z,q⟩=>⟨by rw[<- r.length];exact z,?_⟩)
 have hf:H1 s1.heap.objs.size=none:=I1.hok.fresh (NC _)
 refine⟨.ref s1.heap.objs.size,upd H1 s1.heap.objs.size (.lst xs),I1.laid (t':=s1.toks) (fun b u e=>k5 _ e) (NC _) ?_,rfl,q _ hf⟩
 exact⟨z,us,0,r,NH _ rfl⟩
end
noncomputable abbrev Sp:=List V->Hp->VK->XK->Prop
noncomputable abbrev CXT:=List Env->Hp->NF->XK->NB->NF->Prop
structure vd (P) (w) (K) (mg) (base) (A:Om) (outer) (s:NF) (H:Hp):Prop where
 frames:A.frames=some outer
 mod:Mod K mg base
 bs:∀b o,base.get? b=some o->s.heap.get? b=some o/\H b=none
 bsz:base.objs.size<=s.heap.objs.size
 mn:s.heap.FunFrames base outer
 frf:∀b∈frs outer,H b=none
 hok:HOk P w H s.heap
 bare:Sk s.gens
noncomputable def CE (outer:List Env) (P:NW) (w:Oo) (H:Hp) (s:NF) (Q:VK) (u:NB) (s':NF):Prop:=
 ∃v H',s'.os=s.os/\Sk s'.gens/\Un (frs outer) [] H H' s.heap s'.heap/\HOk P w H' s'.heap/\RelV v u/\Q v H'
noncomputable def CR (CX:CXT) (outer:List Env) (P:NW) (w:Oo) (H:Hp) (s:NF) (Q:VK) (E:XK) (r:Result) (s':NF):Prop:=
 match r with
 | .ok (.ret u)=>CE outer P w H s Q u s'
 | .ok _=>False
 | .error e=>CX outer H s E e s'
structure eK (P) (w) (K) (mg) (base) (CX) (k) (f) (fd) (ps:List Str) (sp:Sp):Prop where
 len:∀vs H Q E,sp vs H Q E->vs.length=ps.length
 run:∀A outer s H args us vs Q E , fD k A->vd P w K mg base A outer s H->Tc s fd args (ps.zip us)->Vals vs us->sp vs H Q E →
  codeAny (model P w) A (.call (.ref f) args) (CR CX outer P w H s Q E) s
theorem eK.mono {K:gV} (F:eK P w K mg base CX j f fd ps sp) (h:j<=k) :
  eK P w K mg base CX k f fd ps sp:=⟨F.len,fun A outer s H args us vs Q E hr=>F.run A outer s H args us vs Q E (hr.mono h)⟩
theorem eK.imp {K:gV} (F:eK P w K mg base CX k f fd ps sp)
  (h:∀vs H Q E,sp' vs H Q E->sp vs H Q E):eK P w K mg base CX k f fd ps sp':=
 ⟨fun vs H Q E q=>F.len vs H Q E (h _ _ _ _ q),fun A outer s H args us vs Q E hr he hb hv hs=>F.run A outer s H args us vs Q E hr he hb hv (h _ _ _ _ hs)⟩
section
variable {X:Cx}{pins:List (Addr × Obj)}{σ:St}{H:Hp}{s s':NF}
theorem Inv.Kv (I:Inv X pins σ H s):vd X.prog X.w X.K X.mg X.base X.A X.stack s H:=
 ⟨I.ok.frames,I.ok.mod,I.bs,N4 I.ok.bsz I.sz,I.stack,I.nJ,I.hok,I.bare⟩
theorem Inv.after (I:Inv X pins σ H s) (h:CE X.stack X.prog X.w H s Q u s'):EP X pins σ Q u s':=by
 obtain⟨v,H',os,bare,un,hok,r,q⟩:=h
 obtain⟨hh,g,d,t,os'⟩:=s'
 obtain rfl:os'=s.os:=os
 exact⟨v,H',I.call (h':=hh) (g':=g) (d':=d) (t':=t) (ch:=[]) un hok bare (fun b z=>absurd z (by simp)),r,q⟩
end
noncomputable def IY (sp:Sp) (dvs:List V) (E:XK) (t:TA):TE:=fun σ H Q=>t σ H fun vs H1=>sp (vs++dvs) H1 Q E
noncomputable def Binds (K:gV) (fd:QW) (ps:List Str) (ds:List NB):Prop:=
 ∀s us , K.In s.heap->(us++ds).length=ps.length->Tc s fd ⟨us,[]⟩ (ps.zip (us++ds))
theorem Binds.all {K:gV} (h:∀us:List NB,us.length=ps.length->bindArgs fd ⟨us,[]⟩=pure (ps.zip us)):Binds K fd ps []:=fun s us _ hl=>by
 rw[P9] at hl ⊢
 exact .of_eq (h us hl)
noncomputable def Passes (CX:CXT) (X:Cx) (E:XK):Prop:=∀pins (σ:St) H s e s' , Inv X pins σ H s->CX X.stack H s E e s'->X.xe e s'
section
variable {X:Cx}{CX:CXT}{k:Nat}{f C:Addr}{fd:QW}{ps:List Str}{sp:Sp}{dvs:List V}{ds:List NB}{E:XK}{x m:Str}{p pos apos:Pos}{e o:Expr}{es:List Expr}{ta:TE}{t:TA}
theorem Gx {σ:St} (F:eK X.prog X.w X.K X.mg X.base CX k f fd ps sp) (hr:fD k X.A) (hb:Binds X.K fd ps ds) (hd:Vals dvs ds) (hx:Passes CX X E)
  (I:Inv X pins σ H s) (r:Vals vs us) (h:sp (vs++dvs) H Q E):wpAny (model X.prog X.w) X.A (call (.ref f) us) (EP X pins σ Q) X.xe s:=by
 have r2:Vals (vs++dvs) (us++ds):=r.append hd
 have hl:(us++ds).length=ps.length:=by rw[<- r2.length];exact F.len _ _ _ _ h
 refine RY (Pg (F.run X.A X.stack s H ⟨us,[]⟩ (us++ds) (vs++dvs) Q E hr I.Kv (hb s us I.kIn hl) r2 h) fun r s' hq=>?_)
 cases r with
 | error e=>exact hx pins σ H s e s' I hq
 | ok fl=>
  cases fl with
  | ret u=>exact I.after hq
  | next=>assumption
  | brk=>assumption
  | cont=>assumption
theorem Fi (F:eK X.prog X.w X.K X.mg X.base CX k f fd ps sp) (hr:fD k X.A) (hg:Gl X x) (hm:X.mg x=some (.ref f)) (hk:OF X.K (.ref f)=true) (hb:Binds X.K fd ps ds) (hd:Vals dvs ds) (hx:Passes CX X E)
  (ha:PA X (e::es) t) (hdb:(x == ("__debug__" : Str))=false:=by decide) (he:starEach (e::es) X.env=(false,eval e X.env)::starEach es X.env:=by rfl) (hpl:(backTo pos (starEach es X.env)).any (·.1)=false:=by rfl) :
  PE X (.Call (.Name x p) (e::es) [] pos) (IY sp dvs E t):=by
 intro pins s σ H Q I h
 refine Qv (ya I hg hm ?_ hdb)
 refine QX (h₀:=X.base) I.ok.mod.kin hk (thn (ha pos pins s σ H _ I h) fun us s1 ⟨vs,H1,I1,r,q⟩=>⟨I1.kIn,?_⟩) he hpl
 exact Gx F hr hb hd hx I1 r q
end
structure az (N P:List Str) (sc:Ru):Prop where
 kind:sc.kind=.function
 co:sc.isCoroutine=false
 gen:sc.isGenerator=false
 nd:N.Nodup
 pre:N.take P.length=P
 par:∀x∈P,sc.names.lookup x=some .local\/sc.names.lookup x=some .cell
 GA:∀y∈sc.names,y.2≠.free
theorem rf {kindOf:Str->Option PM}{x:Str}:∀{binds:List (Str × NB)}{m:Str->Option NB},(∀v,(x,v)∉binds)->bindL kindOf binds m x=m x
 | [],_,_=>rfl
 | (n,v)::r,m,h=>by
  unfold bindL
  rw[rf fun w hw=>h w (ox _ hw)]
  split
  ·have:x≠n:=by rintro rfl;exact h v NG
   simp[this]
  ·rfl
theorem qP {kindOf:Str->Option PM}:∀{binds:List (Str × NB)}{m:Str->Option NB},(∀v,(x,v)∉binds)->bindC kindOf binds m x=m x
 | [],_,_=>rfl
 | (n,v)::r,m,h=>by
  unfold bindC
  rw[qP fun w hw=>h w (ox _ hw)]
  split
  ·rfl
  grind
theorem rC {kindOf:Str->Option PM}{x:Str}{v:NB}:∀{P:List Str}{vs:List NB}{i:Nat}{m:Str->Option NB},P.Nodup->P[i]?=some x->vs[i]?=some v->kindOf x=some .local →
  bindL kindOf (P.zip vs) m x=some v
 | [],_,_,_,_,h,_,_=>by simp at h
 | _::_,[],_,_,_,_,h,_=>by simp at h
 | p::P,w::vs,0,m,nd,h1,h2,hk=>by
  simp at h1 h2;subst h1;subst h2
  show bindL kindOf ((p,w)::P.zip vs) m p=_
  unfold bindL
  rw[rf fun v hv=>(Pp.mp nd).1 (RC hv).1,if_pos hk]
  simp
 | p::P,w::vs,i+1,m,nd,h1,h2,hk=>by
  show bindL kindOf ((p,w)::P.zip vs) m x=_
  unfold bindL
  exact rC (i:=i) (Pp.mp nd).2 (by simp_all) (by simp_all) hk
theorem qS {kindOf:Str->Option PM}{x:Str}{v:NB}:∀{P:List Str}{vs:List NB}{i:Nat}{m:Str->Option NB},P.Nodup->P[i]?=some x->vs[i]?=some v->kindOf x≠some .local →
  bindC kindOf (P.zip vs) m x=some v
 | [],_,_,_,_,h,_,_=>by simp at h
 | _::_,[],_,_,_,_,h,_=>by simp at h
 | p::P,w::vs,0,m,nd,h1,h2,hk=>by
  simp at h1 h2;subst h1;subst h2
  show bindC kindOf ((p,w)::P.zip vs) m p=_
  unfold bindC
  rw[qP fun v hv=>(Pp.mp nd).1 (RC hv).1,if_neg hk]
  simp
 | p::P,w::vs,i+1,m,nd,h1,h2,hk=>by
  show bindC kindOf ((p,w)::P.zip vs) m x=_
  unfold bindC
  exact qS (i:=i) (Pp.mp nd).2 (by simp_all) (by simp_all) hk
noncomputable def start (N:List Str) (vs:List V):St:=vs.map some++N1 (N.length - vs.length) none
noncomputable def gg (CX:CXT) (P:NW) (w:Oo) (K:gV) (mg:Str->Option NB) (base:Heap) (N:List Str) (qual:Str) (scope:Ru) (f:Addr) (cd:NB) (A:Om) (outer:List Env) (s:NF) (H:Hp) (E:XK):Cx where
 prog:=P
 w:=w
 K:=K
 mg:=mg
 base:=base
 A:=A.deeper (envOfC qual scope s.heap.objs.size f cd)
 N:=N
 aE:=s
 aG:=H
 env:=envOfC qual scope s.heap.objs.size f cd
 outer:=outer
 stack:=envOfC qual scope s.heap.objs.size f cd::outer
 ex:=[]
 calm:=true
 fn:=fun _=>true
 pn:=[]
 xe:=fun e s'=>wpAny (model P w) (A.deeper (envOfC qual scope s.heap.objs.size f cd)) (leaving (envOfC qual scope s.heap.objs.size f cd) e) (fun _ s''=>CX outer H s E e s'') (fun e' s''=>CX outer H s E e' s'') s'
theorem vZ {sc:Ru} (h:sc.names.lookup x=some .cell):∃c,(cellsFrom n sc.names []).lookup x=some c:=by
 have q:=PN sc.names n [] (.inl h)
 exact P_.mp q
theorem rg {CX:CXT}{P:NW}{w:Oo}{K:gV}{mg:Str->Option NB}{base:Heap}{N ps:List Str}{qual:Str}{scope:Ru}{f:Addr}{cd:NB}{A:Om}{outer:List Env}{s s1:NF}{H:Hp}{E:XK}{us:List NB}{vs:List V}
  (S:az N ps scope) (hd:A.handled=none) (e0:vd P w K mg base A outer s H) (hl:vs.length=ps.length) (r:Vals vs us)
  (x:InCallC s s.heap.objs.size (bindL (envOfC qual scope s.heap.objs.size f cd).kindOf (ps.zip us) fun _=>none) (cellsFrom (s.heap.objs.size+1) scope.names []) (bindC (envOfC qual scope s.heap.objs.size f cd).kindOf (ps.zip us) fun _=>none) s1) :
  Inv (gg CX P w K mg base N qual scope f cd A outer s H E) [] (start N vs) H s1:=by
 have hpl:ps.length<=N.length:=by have:=congrArg List.length S.pre;rw[Oa] at this;omega
 obtain⟨h1,tk,rfl,hk⟩:=x.done
 have noA:∀b:Addr,b∉(gg CX P w K mg base N qual scope f cd A outer s H E).ex:=fun b z=>absurd (show b∈([]:List Addr) from z) (by simp)
 refine⟨⟨e0.mod,S.kind,rfl,rfl,NC _,fun y z c h1 h2=>?_,fun y hy=>?_,fun y c _ h=>?_,fun _=>hd,Om.frames_deeper e0.frames,.inr ⟨rfl,rfl⟩,fun b z=>absurd z (noA b),e0.bs,e0.bsz,fun b _ _=>noA b,fun b z=>absurd z (noA b),e0.mn,e0.frf⟩,
  rfl,e0.bare,Un.kept hk,⟨_,x.toInCall.ns,fun i y v h1 h2 h3=>?_⟩,fun y c h=>⟨_,x.cell y c h⟩,e0.hok.fresh (NC _),fun y c h=>?_,fun p hp=>absurd (show p∈([]:List (Addr × Obj)) from hp) (by simp),e0.hok.kept hk,?_⟩
 ·exact name_of_addr x.apart (Qf h1) (Qf h2)
 ·have hy:scope.names.lookup y=some .cell\/scope.names.lookup y=some .free:=hy
  rcases hy with hy | hy
  ·exact vZ hy
  ·exact absurd rfl (S.GA _ (Qf hy))
 ·exact QP (x.above y c (Qf h))
 ·have hi:i<vs.length:=by
   unfold start at h2
   by_cases hi:i<vs.length
   ·exact hi
   ·rw[NR (by simpa using hi)] at h2
    rw[Qg] at h2
    split at h2<;>cases h2
  have ha:vs[i]?=some v:=by
   unfold start at h2
   rw[NN (by simpa using hi),NU] at h2
   cases e:vs[i]? with
   | none=>rw[e] at h2;cases h2
   | some a=>rw[e] at h2;cases h2;rfl
  obtain⟨u,hu,rv⟩:=r.get ha
  have hp:ps[i]?=some y:=by
   rw[<- S.pre,List.getElem?_take_of_lt (by omega)];exact h1
  have ndP:ps.Nodup:=by rw[<- S.pre];exact S.nd.sublist (RZ _ _)
  refine⟨u,rv,?_⟩
  rcases S.par y (Ob hp) with k | k
  ·exact .inl ⟨k,rC ndP hp hu k⟩
  ·obtain⟨c,e⟩:=vZ (n:=s.heap.objs.size+1) k
   refine .inr ⟨.inl k,c,e,?_⟩
   have q:=x.cell y c e
   rw[qS ndP hp hu (by show scope.names.lookup y≠_;rw[k];decide)] at q
   exact q
 ·exact e0.hok.fresh (QP (x.above y c (Qf h)))
 ·unfold start
  show _=N.length
  rw[N2,NJ,Rp]
  omega
theorem Kk {CX:CXT}{P:NW}{w:Oo}{K:gV}{mg:Str->Option NB}{base:Heap}{k:Nat}{f:Addr}{name qual:Str}{params:R0}{body:List Stmt}{scope:Ru}{dV kV doc pm cdv ct oc:NB}{an od:Option Addr}
  {osl:Array (Option NB)} {N ps:List Str} {sp:Sp} (lk:K.lookup f=some ⟨oc,od,.func (Oy name qual params body scope dV kV doc pm an cdv ct),osl⟩) (hcd:Qr K cdv qual=true) (S:az N ps scope)
  (len:∀vs H Q E,sp vs H Q E->vs.length=ps.length)
  (hbody:∀(A:Om) (outer:List Env) (s:NF) (H:Hp) (vs:List V) (Q:VK) (E:XK),fD k (A.deeper (envOfC qual scope s.heap.objs.size f cdv))->sp vs H Q E →
   ∃t,PSs (gg CX P w K mg base N qual scope f cdv A outer s H E) body t/\t { nx:=fun _ H'=>Q .non H',rt:=Q } (start N vs) H) :
  eK P w K mg base CX (k+1) f (Oy name qual params body scope dV kV doc pm an cdv ct) ps sp:=by
 refine⟨len,fun A outer s H args us vs Q E hr e0 hb r hsp=>?_⟩
 have hl:=len _ _ _ _ hsp
 have KX:K.In s.heap:=e0.mod.kin.keeps fun b o e=>(e0.bs b o e).1
 have lim:s.heap.NoLimit:=e0.mod.nolimit.keeps fun b o e=>(e0.bs b o e).1
 have hkind:∀y∈ps.zip us,scope.names.lookup y.1=some .local\/(scope.names.lookup y.1=some .cell/\((cellsFrom (s.heap.objs.size+1) scope.names []).lookup y.1).isSome=true):=fun⟨n,v⟩ hy=>by
  rcases S.par n (RC hy).1 with q | q
  ·exact .inl q
  ·exact .inr ⟨q,PN _ _ _ (.inl q)⟩
 refine codeAny_call_function hr.depth (KX _ _ lk) rfl S.co S.gen rfl (PySem.W.codeRec_of KX hcd) (hb _ _ _ _ ?_)
 refine wpAny_newFunctionEnv_cells S.kind hkind fun env he s1 x=>?_
 subst he
 refine⟨lim.keeps x.toInCall.keep,codeAny_func ?_⟩
 obtain⟨t,ht,hq⟩:=hbody A outer s H vs Q E (hr.deeper _) hsp
 have I:Inv (gg CX P w K mg base N qual scope f cdv A outer s H E) [] (start N vs) H s1:=rg S hr.hd e0 hl r x
 refine OW (ht [] s1 (start N vs) H _ I hq) (fun fl s' hs=>?_) fun e s' hs=>hs
 have fin:∀{σ':St} {H':Hp} {v:V} {u:NB},Inv (gg CX P w K mg base N qual scope f cdv A outer s H E) [] σ' H' s'->RelV v u->Q v H'->CE outer P w H s Q u s':=
  fun{σ' H' v u} J rv q=>⟨v,H',J.os,J.bare,J.base,J.hok,rv,q⟩
 cases fl with
 | ret u=>
  obtain⟨v,σ',H',J,rv,q⟩:=hs
  exact fin J rv q
 | next=>
  obtain⟨σ',H',J,q⟩:=hs
  exact fin (v:=V.non) (u:=Qq) J rfl q
 | brk=>
  obtain⟨_,_,_,q⟩:=hs
  exact QD q
 | cont=>
  obtain⟨_,_,_,q⟩:=hs
  exact QD q
section
variable {X:Cx}{x:Str}{p pos:Pos}{e:Expr}{es:List Expr}{t:TA}{id T:String}{r:List V->Hp->VK->Prop}
noncomputable def tCB (r:List V->Hp->VK->Prop) (t:TA):TE:=fun σ H Q=>t σ H fun vs H1=>r vs H1 Q
theorem nN (hc:cb X (.builtin id) r) (hg:Gl X x) (hm:X.mg x=none) (hv:bootBuiltins x=some (.builtin id)) (ha:PA X (e::es) t) (hn:x≠"__name__" := by decide) (hdb:(x == ("__debug__" : Str))=false:=by decide)
  (he:starEach (e::es) X.env=(false,eval e X.env)::starEach es X.env:=by rfl) (hpl:(backTo pos (starEach es X.env)).any (·.1)=false:=by rfl):PE X (.Call (.Name x p) (e::es) [] pos) (tCB r t):=by
 intro pins s σ H Q I h
 refine Qv (lJ I hg hm hv ?_ hn hdb)
 exact PyProof.Rows.callWith_builtin1 (thn (ha pos pins s σ H _ I h) fun us s1 ⟨vs,H1,I1,r1,q1⟩=>hc pins s1 σ H1 vs us Q I1 r1 q1) he hpl
theorem jF (hc:cb X (.type T) r) (hg:Gl X x) (hm:X.mg x=none) (hv:bootBuiltins x=some (.type T)) (ha:PA X (e::es) t) (hn:x≠"__name__" := by decide) (hdb:(x == ("__debug__" : Str))=false:=by decide)
  (he:starEach (e::es) X.env=(false,eval e X.env)::starEach es X.env:=by rfl) (hpl:(backTo pos (starEach es X.env)).any (·.1)=false:=by rfl):PE X (.Call (.Name x p) (e::es) [] pos) (tCB r t):=by
 intro pins s σ H Q I h
 refine Qv (lJ I hg hm hv ?_ hn hdb)
 exact PF (thn (ha pos pins s σ H _ I h) fun us s1 ⟨vs,H1,I1,r1,q1⟩=>hc pins s1 σ H1 vs us Q I1 r1 q1) he hpl
end
end L2
namespace HT
open PySem PyProof.Rows
section
variable {prog:NW}{w:Oo}{A:Om}{E:NB->NF->Prop}{s:NF}
theorem EJ (ht:IsTup s.heap t vs.toArray) (hb:IsTup s.heap b ws.toArray) (hv:vs≠[])
  (h1:ws=[]->Q (.ref t) s) (h2:ws≠[]->Q (.ref s.heap.objs.size) { s with heap:=s.heap.push { cls:=.type "tuple", data:=.seq (vs++ws).toArray } })
  (hsz:vs.length+ws.length<=sizeLine):wpAny (model prog w) A (binaryOp .Add (.ref t) (.ref b)) Q E s:=by
 obtain⟨⟨cls,dd,data,sl⟩,ho,hc,n,hd⟩:=id ht
 obtain⟨⟨cls2,dd2,data2,sl2⟩,ho2,hc2,n2,hd2⟩:=id hb
 simp only at hc hd hc2 hd2
 subst hc hd hc2 hd2
 have e:vs.toArray++ws.toArray=(vs++ws).toArray:=by simp
 by_cases hw:ws=[]
 ·exact Tf ⟨_,ho,rfl⟩ ⟨_,ho2,rfl⟩ Sf SU Q6 QY (QQ _ _)
   (tuple_addW1 t b vs.toArray ws.toArray n n2 dd dd2 sl sl2 (by simp_all) (by simp[hw])) ⟨ho,ho2,h1 hw⟩
 ·refine Tf ⟨_,ho,rfl⟩ ⟨_,ho2,rfl⟩ Sf SU Q6 QY (QQ _ _)
   (tuple_addW2 t b vs.toArray ws.toArray n n2 dd dd2 sl sl2 (by simp_all) (by simp_all) (by omega)) ⟨ho,ho2,?_⟩
  simp_all
noncomputable def sIx (n d:Nat):Option Int->Nat
 | none=>d
 | some v=>if v<0 then (v+(n:Int)).toNat else min v.toNat n
theorem u7 (n d):sIx n d none=d:=rfl
theorem yS (n d k:Nat):sIx n d (some (k:Int))=min k n:=by
 rfl
theorem Hv (n d) (hd:d<=n) (o):sIx n d o<=n:=by
 cases o with
 | none=>exact hd
 | some v=>
  show(if v<0 then (v+(n:Int)).toNat else min v.toNat n)<=n
  grind
theorem zo (v) (n d:Nat):(if v<0 then max (v+(n:Int)) 0 else min v (n:Int))=((sIx n d (some v):Nat):Int):=by
 show(if v<0 then max (v+(n:Int)) 0 else min v (n:Int))=(((if v<0 then (v+(n:Int)).toNat else min v.toNat n):Nat):Int)
 grind
theorem wO (lo hi) (n:Nat):QJ lo hi 1 (n:Int)=(((sIx n 0 lo:Nat):Int),((sIx n n hi:Nat):Int)):=by
 have h1:¬ ((1:Int)<0):=by lia
 unfold QJ
 simp only[h1,if_false]
 refine Prod.ext ?_ ?_
 ·cases lo with
  | none=>rfl
  | some v=>exact zo v n 0
 ·cases hi with
  | none=>rfl
  | some v=>exact zo v n n
theorem xU (i j:Nat):P1 (i:Int) (j:Int) 1=j - i:=by
 unfold P1
 have h1:(1:Int) > 0:=by omega
 simp only[h1,if_true,Int.ediv_one]
 split<;>omega
theorem pK (p:SV v o) (h:Q o s):wpAny (model prog w) A (OJ.Slice.slicePartIndex v) Q E s:=by
 cases p with
 | none=>exact slicePart_none h
 | int i t=>exact slicePart_int h
theorem gW {sl:Addr}{vl vu:NB}{lo hi:Option Int}{n:Nat}{Q:Int × Int × Nat->NF->Prop} (hs:s.heap.IsSliceOf sl vl vu .none) (pl:SV vl lo) (pu:SV vu hi)
  (h:Q (((sIx n 0 lo:Nat):Int),1,sIx n n hi - sIx n 0 lo) s):wpAny (model prog w) A (OJ.Slice.sliceApplied (.ref sl) (pure (n:Int))) Q E s:=by
 obtain⟨os,hos,hcs,hds⟩:=id hs
 unfold OJ.Slice.sliceApplied OJ.Slice.sliceFields
 refine k3 (k3 (Rc hos hds (x:=vl) rfl (k3 (Rc hos hds (x:=vu) rfl (k3 (Rc hos hds (x:=.none) rfl (td ?_)))))))
 refine k3 (slicePart_none ?_)
 show wpAny _ _ (if ((1:Int) == 0)=true then _ else _) _ _ s
 rw[if_neg (by decide)]
 refine k3 (pK pl (k3 (pK pu (k3 (td ?_)))))
 show wpAny _ _ (match QJ lo hi 1 (n:Int) with | (lo,hi)=>pure (lo,(1:Int),P1 lo hi 1)) _ _ s
 rw[wO lo hi n]
 show wpAny _ _ (pure (((sIx n 0 lo:Nat):Int),(1:Int),P1 ((sIx n 0 lo:Nat):Int) ((sIx n n hi:Nat):Int) 1)) _ _ s
 rw[xU]
 exact td h
theorem De (xs:Array NB) (i k:Nat):((ND k).filterMap fun(m:Nat)=>xs[((i:Int)+(m:Int)*1).toNat]?).toArray=((xs.toList.drop i).take k).toArray:=by
 have e:(fun(m:Nat)=>xs[((i:Int)+(m:Int)*1).toNat]?)=fun m=>xs[i+m]?:=by
  funext m
  have:((i:Int)+(m:Int)*1).toNat=i+m:=by omega
  rw[this]
 rw[e]
 have:=pick_run xs i k
 rw[List.filterMap_map] at this
 have e2:((fun x=>xs[x]?) ∘ fun x=>i+x)=fun m=>xs[i+m]?:=rfl
 rw[e2] at this
 rw[this]
theorem kR {lo hi:Option Int} (ht:IsTup s.heap t items) (hs:s.heap.IsSliceOf sl vl vu .none) (pl:SV vl lo) (pu:SV vu hi)
  (hw:¬ (sIx items.size 0 lo=0/\sIx items.size items.size hi=items.size))
  (h:Q (.ref s.heap.objs.size) { s with heap:=s.heap.push { cls:=.type "tuple", data:=.seq ((items.toList.drop (sIx items.size 0 lo)).take (sIx items.size items.size hi - sIx items.size 0 lo)).toArray } })
  (hsz:items.size<=sizeLine):wpAny (model prog w) A (getItem (.ref t) (.ref sl)) Q E s:=by
 have htake:sizeOk (.seq ((items.toList.drop (sIx items.size 0 lo)).take (sIx items.size items.size hi - sIx items.size 0 lo)).toArray):=by
  show((items.toList.drop (sIx items.size 0 lo)).take (sIx items.size items.size hi - sIx items.size 0 lo)).toArray.size<=sizeLine
  grind
 have hj:sIx items.size items.size hi<=items.size:=Hv _ _ (NC _) hi
 obtain⟨os,hos,hcs,hds⟩:=id hs
 have hTs:s.TypeIs (.ref sl) "slice" := ⟨os,hos,hcs⟩
 unfold getItem
 try with_reducible refine OR ?_
 first | refine k3 (td ?_) | skip
 refine k3 (wpAny_sequenceKey ht.typeIs (by decide) ?_)
 refine k3 (Pc (name:=Str.ofString "__getitem__") ht.typeIs OB
  (O0 OB ht.typeIs entry_tuple_getitem ?_ (args_tuple_getitem _ _)))
 show wpAny _ _ (OJ.Tuple.tupleItemsOf (.ref t) >>= _) _ _ s
 refine k3 (tupleItemsOf_ ht ?_)
 refine k3 (Rq hTs ?_)
 rw[if_pos (by decide)]
 refine k3 (gW hs pl pu ?_)
 have hno:¬ ((((sIx items.size 0 lo:Nat):Int) == 0&&(1:Int) == 1&&(sIx items.size items.size hi - sIx items.size 0 lo) == items.size)=true):=by
  simp_all
 show wpAny _ _ (if (((sIx items.size 0 lo:Nat):Int) == 0&&(1:Int) == 1&&(sIx items.size items.size hi - sIx items.size 0 lo) == items.size)=true then _ else _) _ _ s
 rw[if_neg hno,De]
 first
  | exact k3 (m:=O7 _) (Oq (td ⟨_,rfl,td h⟩) htake)
  | exact k3 (m:=O7 _) (Oq (k3 (td (td ⟨_,rfl,td h⟩))) htake)
  | exact k3 (k3 (m:=O7 _) (Oq (td (td ⟨_,rfl,td h⟩)) htake))
  | exact k3 (k3 (m:=O7 _) (Oq (td ⟨_,rfl,td h⟩) htake))
end
end HT
namespace L2
open PySem PySem.Spec PyProof.Rows
noncomputable abbrev TO:=St->Hp->(Option Int->Hp->Prop)->Prop
noncomputable def PO (X:Cx) (e:Option Expr) (t:TO):Prop:=
 ∀pins s (σ:St) H Q , Inv X pins σ H s->t σ H Q →
  wpAny (model X.prog X.w) X.A (evalPart e X.env) (fun u s'=>∃o H',Inv X pins σ H' s'/\SV u o/\Q o H') X.xe s
noncomputable def DN:TO:=fun _ H Q=>Q none H
noncomputable def Kn (t:TE):TO:=fun σ H Q=>t σ H fun x H1=>∃i,x=.int i/\Q (some i) H1
theorem intsAre_of:∀{us:List NB},Vals (ns.map V.int) us->Rf us ns:=by
 induction ns with
 | nil=>intro us r;rw[PZ] at r;cases r;exact .nil
 | cons n ns ih=>
  intro us r
  rw[NV] at r
  cases r with
  | cons r1 r2=>
   obtain⟨t,e⟩:=r1
   subst e
   exact .cons n t (ih r2)
section
variable {X:Cx}{e:Expr}{te:TE}{lo hi:Option Expr}{tl th:TO}{pos p2:Pos}
theorem DP:PO X none DN:=by
 intro pins s σ H Q I h
 rw[evalPart_none]
 exact td ⟨none,H,I,.none,h⟩
theorem Fp (h:PE X e te):PO X (some e) (Kn te):=by
 intro pins s σ H Q I hw
 rw[evalPart_some]
 refine thn (h pins s σ H _ I hw) fun u s1 ⟨x,H1,I1,r1,q1⟩=>?_
 obtain⟨i,rfl,q⟩:=q1
 obtain⟨t,rfl⟩:=r1
 exact⟨some i,H1,I1,.int i t,q⟩
noncomputable def SlR (X:Cx) (r:V->Option Int->Option Int->Hp->VK->Prop):Prop:=
 ∀pins s (σ:St) H x v vl vu lo hi sl Q , Inv X pins σ H s->RelV x v->s.heap.IsSliceOf sl vl vu .none->SV vl lo->SV vu hi->r x lo hi H Q →
  ∃T id,typeLookup (.type T) "__getitem__" = pure (some (.builtin id))/\s.TypeIs v T/\wpAny (model X.prog X.w) X.A (getItem v (.ref sl)) (EP X pins σ Q) X.xe s
theorem SlR.or (h:SlR X r) (h':SlR X r'):SlR X (fun x lo hi H Q=>r x lo hi H Q\/r' x lo hi H Q):=by
 intro pins s σ H x v vl vu lo hi sl Q I rx hs pl pu q
 rcases q with q | q
 ·exact h pins s σ H x v vl vu lo hi sl Q I rx hs pl pu q
 ·exact h' pins s σ H x v vl vu lo hi sl Q I rx hs pl pu q
noncomputable def tSl (r:V->Option Int->Option Int->Hp->VK->Prop) (te:TE) (tl th:TO):TE:=fun σ H Q=>te σ H fun x H1=>tl σ H1 fun l H2=>th σ H2 fun u H3=>r x l u H3 Q
theorem A9 {r:V->Option Int->Option Int->Hp->VK->Prop} (hr:SlR X r) (he:PE X e te) (hl:PO X lo tl) (hu:PO X hi th):PE X (.Subscript e (.Slice lo hi none p2) pos) (tSl r te tl th):=by
 intro pins s σ H Q I h
 refine Subscript_ (thn (he pins s σ H _ I h) fun v s1 ⟨x,H1,I1,r1,q1⟩=>?_)
 refine wpAny_Slice (thn (hl pins s1 σ H1 _ I1 q1) fun vl s2 ⟨l,H2,I2,pl,q2⟩=>thn (hu pins s2 σ H2 _ I2 q2) fun vu s3 ⟨u,H3,I3,pu,q3⟩=>?_)
 rw[evalPart_none]
 refine td ?_
 have I4:Inv X pins σ H3 { s3 with heap:=s3.heap.push { cls:=.type "slice", data:=.fields #[vl,vu,.none] } }:=I3.kept (t':=s3.toks) fun b ob q=>k5 _ q
 obtain⟨T,id,hT,ht,hg⟩:=hr pins { s3 with heap:=s3.heap.push { cls:=.type "slice", data:=.fields #[vl,vu,.none] } } σ H3 x v vl vu l u s3.heap.objs.size Q I4 r1 (Heap.IsSliceOf.new ..) pl pu q3
 show wpAny (model X.prog X.w) X.A (subscriptTail e (.Slice lo hi none p2) v (.ref s3.heap.objs.size)) (EP X pins σ Q) X.xe { s3 with heap:=s3.heap.push { cls:=.type "slice", data:=.fields #[vl,vu,.none] } }
 exact tail_any (ops:=[.ref s3.heap.objs.size,v]) ht hT hg (by rfl)
noncomputable def p8 (xs:List V) (lo hi:Option Int):List V:=(xs.drop (HT.sIx xs.length 0 lo)).take (HT.sIx xs.length xs.length hi - HT.sIx xs.length 0 lo)
theorem mL (xs:List V) (lo hi:Option Int):(p8 xs lo hi).length<=xs.length:=by
 unfold p8
 rw[Oa,QL]
 omega
noncomputable def Mb (K:gV):V->Option Int->Option Int->Hp->VK->Prop:=fun x lo hi H Q=>∃a xs,x=.ref a/\SqT K H a xs ∧
 ¬ (HT.sIx xs.length 0 lo=0/\HT.sIx xs.length xs.length hi=xs.length)/\∀p,H p=none->Q (.ref p) (upd H p (.tup (p8 xs lo hi)))
theorem Gi:SlR X (Mb X.K):=by
 intro pins s σ H x v vl vu lo hi sl Q I rx hs pl pu h
 obtain⟨a,xs,rfl,hx,hw,q⟩:=h
 cases rx
 obtain⟨its,r,ht,hz⟩:=I.tuple hx
 have hlen:its.toArray.size=xs.length:=by rw[N5];exact r.length.symm
 refine⟨"tuple", _,OB.lookup,ht.typeIs,?_⟩
 refine HT.kR ht hs pl pu (by rw[hlen];exact hw) ?_ (by rw[hlen];exact hz)
 rw[hlen]
 refine⟨.ref s.heap.objs.size,_,I.laid (t':=s.toks) (o:=.tup (p8 xs lo hi)) (fun b ob q=>k5 _ q) (NC _) ?_,rfl,q _ (I.hok.fresh (NC _))⟩
 exact⟨N4 (mL xs lo hi) hz,_,(r.drop (HT.sIx xs.length 0 lo)).take (HT.sIx xs.length xs.length hi - HT.sIx xs.length 0 lo),mR.new _ _⟩
noncomputable def FX (K:gV):R2:=fun x y H Q=>∃a b xs ys,x=.ref a/\y=.ref b/\SqT K H a xs/\SqT K H b ys/\xs≠[]/\xs.length+ys.length<=sizeLine ∧
 (ys=[]->Q (.ref a) H)/\(ys≠[]->∀p,H p=none->Q (.ref p) (upd H p (.tup (xs++ys))))
theorem Vals.sO (r:Vals xs us):us=[]↔xs=[]:=by
 cases r with
 | nil=>simp
 | cons _ _=>simp
theorem ED:OpR X (binaryOp .Add) (FX X.K):=by
 intro pins s σ H x y v u Q I rx ry h
 obtain⟨a,b,xs,ys,rfl,rfl,ha,hb,hx,hz,q1,q2⟩:=h
 cases rx
 cases ry
 obtain⟨its,r1,p1,_⟩:=I.tuple ha
 obtain⟨its2,r2,p2,_⟩:=I.tuple hb
 refine HT.EJ p1 p2 (fun z=>hx (r1.sO.mp z)) (fun z=>⟨.ref a,H,I,rfl,q1 (r2.sO.mp z)⟩) (fun z=>?_) (by rw[<- r1.length,<- r2.length];exact hz)
 refine⟨.ref s.heap.objs.size,_,I.laid (t':=s.toks) (o:=.tup (xs++ys)) (fun b ob q=>k5 _ q) (NC _) ?_,rfl,q2 (fun w=>z (r2.sO.mpr w)) _ (I.hok.fresh (NC _))⟩
 exact⟨by simp_all,_,r1.append r2,mR.new _ _⟩
end
noncomputable def ixN (n:Nat) (i:Int):Option Nat:=if 0<=i then (if i<n then some i.toNat else none) else if -(n:Int)<=i then some (i+n).toNat else none
noncomputable def atI {α:Type} (xs:List α) (i:Int):Option α:=(ixN xs.length i).bind fun j=>xs[j]?
theorem zc (h:ixN n i=some j):seqIndex? i n=some j/\j<n/\-(n:Int)<=i/\i<n:=by
 unfold ixN at h
 by_cases h0:0<=i
 ·rw[if_pos h0] at h
  by_cases h1:i<n
  ·rw[if_pos h1] at h
   have e:i.toNat=j:=Oz h
   exact⟨by rw[SO h0 h1,e],by lia,by lia,h1⟩
  simp_all
 ·rw[if_neg h0] at h
  by_cases h1:-(n:Int)<=i
  ·rw[if_pos h1] at h
   have e:(i+n).toNat=j:=Oz h
   exact⟨by rw[Sl (by lia) h1,e],by lia,h1,by lia⟩
  simp_all
theorem nz (h:atI xs i=some v):∃j,seqIndex? i xs.length=some j/\xs[j]?=some v/\j<xs.length/\-(xs.length:Int)<=i/\i<xs.length:=by
 unfold atI at h
 cases e:ixN xs.length i with
 | none=>simp_all
 | some j=>
  rw[e] at h
  obtain⟨h1,h2,h3,h4⟩:=zc e
  simp_all
theorem El {j:Nat}{v:α} (h:xs[j]?=some v):atI xs (j:Int)=some v:=by
 have hj:j<xs.length:=(Og.mp h).1
 have e:ixN xs.length (j:Int)=some j:=by
  unfold ixN
  simp_all
 unfold atI;simp_all
noncomputable def yo (b:Expr):Prop:=∀o i,subscripted b false o i=operate [o,i] (getItem o i)
noncomputable def IxR (X:Cx) (r:R2):Prop:=
 ∀value slice pins s (σ:St) H x y v u Q , Inv X pins σ H s->RelV x v->RelV y u->r x y H Q →
  subscripted slice false v u=operate [v,u] (getItem v u)->wpAny (model X.prog X.w) X.A (subscriptTail value slice v u) (EP X pins σ Q) X.xe s
noncomputable def MtR (X:Cx) (id:String) (r:V->List V->Hp->VK->Prop):Prop:=
 ∀pins s (σ:St) H x xs v us Q , Inv X pins σ H s->RelV x v->Vals xs us->r x xs H Q →
  wpAny (model X.prog X.w) X.A (call (.builtin id) (v::us)) (EP X pins σ Q) X.xe s
section
variable {X:Cx}{a b:Expr}{ta tb:TE}{pos:Pos}
theorem IxR.or (h:IxR X r) (h':IxR X r'):IxR X (fun x y H Q=>r x y H Q\/r' x y H Q):=by
 intro value slice pins s σ H x y v u Q I rx ry q hs
 rcases q with q | q
 ·exact h value slice pins s σ H x y v u Q I rx ry q hs
 ·exact h' value slice pins s σ H x y v u Q I rx ry q hs
theorem JV (hr:IxR X r) (ha:PE X a ta) (hb:PE X b tb) (hs:yo b):PE X (.Subscript a b pos) (tOp r ta tb):=by
 intro pins s σ H Q I h
 exact Subscript_ (Ip ha hb I h fun v u s2 x y H2 I2 rx ry q=>hr a b pins s2 σ H2 x y v u Q I2 rx ry q (hs _ _))
noncomputable def HH (K:gV):R2:=fun x y H Q=>∃p xs i v,x=.ref p/\y=.int i/\SqL K H p xs/\atI xs i=some v/\Q v H
noncomputable def Jj (K:gV):R2:=fun x y H Q=>∃p xs i v,x=.ref p/\y=.int i/\SqT K H p xs/\atI xs i=some v/\Q v H
noncomputable def IT:R2:=fun x y H Q=>∃z i c,x=.str z/\y=.int i/\z.length<=sizeLine/\atI z.cps.toList i=some c/\Q (.str ⟨#[c]⟩) H
theorem EY:IxR X (HH X.K):=by
 intro value slice pins s σ H x y v u Q I rx ry h hs
 obtain⟨p,xs,i,z,rfl,rfl,hq,he,q⟩:=h
 cases rx
 obtain⟨t,rfl⟩:=ry
 obtain⟨its,r,pl,hz⟩:=I.list hq
 obtain⟨j,h1,h2,h3,h4,h5⟩:=nz he
 obtain⟨w,ew,rw'⟩:=r.get h2
 have hl:=r.length
 have hn:=ju
 have fin:EP X pins σ Q w s:=⟨z,H,I,rw',q⟩
 by_cases h0:0<=i
 ·have hj:i.toNat=j:=by
   rw[SO h0 h5] at h1
   simp_all
  exact item_listR pl.isList h0 (by lia) (by simp_all) fin hs
 ·have hj:(i+(its.toArray.size:Int)).toNat=j:=by
   rw[Sl (by lia) h4] at h1
   simp_all
  exact subscriptTail_builtinR (x:=w) pl.isList.typeIs slot_list_getitem.lookup
   (wpAny_getItem_list_neg (Q:=fun r s'=>r=w/\EP X pins σ Q r s') pl.isList (by lia) (by simp_all) (by lia) (by simp_all) ⟨rfl,fin⟩) hs
theorem Gj:IxR X (Jj X.K):=by
 intro value slice pins s σ H x y v u Q I rx ry h hs
 obtain⟨p,xs,i,z,rfl,rfl,hq,he,q⟩:=h
 cases rx
 obtain⟨t,rfl⟩:=ry
 obtain⟨its,r,pl,hz⟩:=I.tuple hq
 obtain⟨j,h1,h2,h3,h4,h5⟩:=nz he
 obtain⟨w,ew,rw'⟩:=r.get h2
 have hl:=r.length
 have hn:=ju
 have fin:EP X pins σ Q w s:=⟨z,H,I,rw',q⟩
 exact subscriptTail_builtinR (x:=w) pl.typeIs slot_tuple_getitem.lookup
  (getItem_tuple (j:=j) (Q:=fun r s'=>r=w/\EP X pins σ Q r s') pl (by lia) (by lia) (by simp_all) (by simp_all) ⟨rfl,fin⟩) hs
theorem HB:IxR X IT:=by
 intro value slice pins s σ H x y v u Q I rx ry h hs
 obtain⟨z,i,c,rfl,rfl,hz,he,q⟩:=h
 obtain⟨t,rfl⟩:=rx
 obtain⟨t',rfl⟩:=ry
 obtain⟨j,h1,h2,h3,h4,h5⟩:=nz he
 have hl:z.cps.toList.length=z.length:=by rfl
 rw[hl] at h1 h4 h5
 have hn:=ju
 exact tail_any (typeIs_str s z t) slot_str_getitem.lookup (getItem_str (c:=c) (by
  grind) (by simp_all) ⟨.str ⟨#[c]⟩,H,I.tok _,⟨_,rfl⟩,q⟩) hs
noncomputable def rIx (K:gV):R2:=fun x y H Q=>HH K x y H Q\/Jj K x y H Q\/IT x y H Q
theorem GB:IxR X (rIx X.K):=EY.or (Gj.or HB)
theorem wB (its:List NB) (n j) (u):Qs (·.setIfInBounds j u) { cls:=.type "list", data:=.seq its.toArray n }={ cls:=.type "list", data:=.seq (its.set j u).toArray n }:=by
 simp[Qs]
theorem Inv.lst {pins:List (Addr × Obj)}{σ:St}{H:Hp}{s:NF}{p:Addr}{xs:List V} (I:Inv X pins σ H s) (h:H p=some (.lst xs)) :
  ∃(its:List NB) (n:Nat),Vals xs its/\s.heap.get? p=some { cls:=.type "list", data:=.seq its.toArray n }/\xs.length<=sizeLine:=by
 obtain⟨z,its,n,r,e⟩:=I.hok p _ h
 exact⟨its,n,r,e,z⟩
theorem Inv.Gs {σ:St}{its its':List NB} (I:Inv X pins σ H s) (h:H p=some (.lst xs))
  (ho:s.heap.get? p=some { cls:=.type "list", data:=.seq its.toArray n }) (hf:f { cls:=.type "list", data:=.seq its.toArray n }={ cls:=.type "list", data:=.seq its'.toArray n' }) (r:Vals ys its') (hz:ys.length<=sizeLine) (t) :
  Inv X pins σ (upd H p (.lst ys)) { s with heap:=s.heap.update p f,toks:=t }:=by
 have e:(s.heap.update p f).get? p=some { cls:=.type "list", data:=.seq its'.toArray n' }:=by
  rw[Rr f ho (by rw[hf]<;>rfl),hf]
 refine I.write (x:=p) (e:=p) (by rw[h];trivial) (.inl rfl) (fun b u hb q=>(Heap.get?_update_other _ _ (Tq hb)).trans q) ⟨_,e⟩ ?_
 exact⟨hz,its',n',r,e⟩
noncomputable def Fv:V->V->V->Hp->(Hp->Prop)->Prop:=fun o i v H Q=>∃p xs k j,o=.ref p/\i=.int k/\H p=some (.lst xs)/\ixN xs.length k=some j/\Q (upd H p (.lst (xs.set j v)))
theorem set_list:Ee X Fv:=by
 intro pins s σ H o i v ov iv u Q I ro ri rv h
 obtain⟨p,xs,k,j,rfl,rfl,hp,hj,q⟩:=h
 cases ro
 obtain⟨t,rfl⟩:=ri
 obtain⟨its,n,r,ho,hz⟩:=I.lst hp
 obtain⟨h1,h2,h3,h4⟩:=zc hj
 have hl:=r.length
 have hn:=ju
 have I':Inv X pins σ (upd H p (.lst (xs.set j v))) { s with heap:=s.heap.update p (Qs (·.setIfInBounds j u)) }:=
  I.Gs hp ho (wB its n j u) (r.set rv j) (by rw[List.length_set];exact hz) s.toks
 by_cases h0:0<=k
 ·have hk:k.toNat=j:=by
   rw[SO h0 h4] at h1
   exact Oz h1
  exact PySem.W.ki_setAt ho h0 (by omega) (by rw[N5,<- hl];exact h4) (by rw[hk];exact⟨_,I',q⟩)
 ·have hk:(k+(its.toArray.size:Int)).toNat=j:=by
   rw[Sl (by omega) h3] at h1
   rw[N5,<- hl]
   exact Oz h1
  exact PySem.W.ki_setBack ho (by omega) (by rw[N5,<- hl];exact h3) (by omega) (by rw[hk];exact⟨_,I',q⟩)
theorem tH (lo hi:Option Int) (n:Nat):(sliceBounds lo hi none n).1=((HT.sIx n 0 lo:Nat):Int)/\(sliceBounds lo hi none n).2.1=((HT.sIx n n hi:Nat):Int)/\(sliceBounds lo hi none n).2.2=1:=by
 refine⟨?_,?_,rfl⟩
 ·cases lo with
  | none=>rfl
  | some i=>
   simp only[sliceBounds,HT.sIx,Option.getD_none,show(1:Int) > 0 by decide,if_true]
   grind
 ·cases hi with
  | none=>rfl
  | some i=>
   simp only[sliceBounds,HT.sIx,Option.getD_none,show(1:Int) > 0 by decide,if_true]
   grind
theorem qE (its:List NB) (lo hi):slicePick its.toArray lo hi none=((its.drop (HT.sIx its.length 0 lo)).take (HT.sIx its.length its.length hi - HT.sIx its.length 0 lo)).toArray:=by
 obtain⟨h1,h2,h3⟩:=tH lo hi its.toArray.size
 unfold slicePick
 rw[h1,h2,h3]
 simp only[sliceRange_one,pick_run,N5]<;>rfl
noncomputable def Mf (K:gV):V->Option Int->Option Int->Hp->VK->Prop:=fun x lo hi H Q=>∃a xs,x=.ref a/\SqL K H a xs/\∀p,H p=none->Q (.ref p) (upd H p (.lst (p8 xs lo hi)))
theorem DZ:SlR X (Mf X.K):=by
 intro pins s σ H x v vl vu lo hi sl Q I rx hs pl pu h
 obtain⟨a,xs,rfl,hx,q⟩:=h
 cases rx
 obtain⟨its,r,ht,hz⟩:=I.list hx
 have hlen:=r.length
 refine⟨"list", _,slot_list_getitem.lookup,ht.isList.typeIs,?_⟩
 refine wpAny_getItem_list_slice ht.isList hs pl pu .none (by simp) ?_ (by simp_all)
 rw[qE,<- hlen]
 refine⟨.ref s.heap.objs.size,_,I.laid (t':=s.toks) (o:=.lst (p8 xs lo hi)) (fun b ob q=>k5 _ q) (NC _) ?_,rfl,q _ (I.hok.fresh (NC _))⟩
 exact⟨N4 (mL xs lo hi) hz,_,0,(r.drop (HT.sIx xs.length 0 lo)).take (HT.sIx xs.length xs.length hi - HT.sIx xs.length 0 lo),NH _ rfl⟩
noncomputable def jZ:V->Bool
 | .non=>true
 | .bl _=>true
 | .int _=>true
 | .str _=>true
 | _=>false
noncomputable def eqV:V->V->Bool
 | .non,.non=>true
 | .bl a,.bl b=>a == b
 | .bl a,.int b=>(if a then 1 else 0) == b
 | .int a,.bl b=>a == (if b then 1 else 0)
 | .int a,.int b=>a == b
 | .str a,.str b=>a == b
 | _,_=>false
theorem Iv (ry:RelV y u) (rx:RelV x v) (fy:jZ y=true) (fx:jZ x=true):OQ A s u v (eqV y x):=by
 cases y with
 | non=>
  cases ry
  cases x with
  | non=>cases rx;exact OQ.same _
  | bl b=>cases rx;exact OQ.none_bool b
  | int b=>obtain⟨t,rfl⟩:=rx;exact OQ.none_int b t
  | str b=>obtain⟨t,rfl⟩:=rx;exact OQ.none_str b t
  | _=>exact absurd (show false=true from fx) Oc
 | bl a=>
  cases ry
  cases x with
  | non=>cases rx;exact OQ.bool_none a
  | bl b=>cases rx;exact OQ.bool_bool a b
  | int b=>obtain⟨t,rfl⟩:=rx;exact OQ.bool_int a b t
  | str b=>obtain⟨t,rfl⟩:=rx;exact OQ.bool_str a b t
  | _=>exact absurd (show false=true from fx) Oc
 | int a=>
  obtain⟨t',rfl⟩:=ry
  cases x with
  | non=>cases rx;exact OQ.int_none a t'
  | bl b=>cases rx;exact OQ.int_bool a t' b
  | int b=>obtain⟨t,rfl⟩:=rx;exact OQ.int_int a t' b t
  | str b=>obtain⟨t,rfl⟩:=rx;exact OQ.int_str a t' b t
  | _=>exact absurd (show false=true from fx) Oc
 | str a=>
  obtain⟨t',rfl⟩:=ry
  cases x with
  | non=>cases rx;exact OQ.str_none a t'
  | bl b=>cases rx;exact OQ.str_bool a t' b
  | int b=>obtain⟨t,rfl⟩:=rx;exact OQ.str_int a t' b t
  | str b=>obtain⟨t,rfl⟩:=rx;exact OQ.str_str a t' b t
  | _=>exact absurd (show false=true from fx) Oc
 | _=>exact absurd (show false=true from fy) Oc
noncomputable def eqU (x:V) (u:NB):Bool:=match u with
 | .none=>eqV .non x
 | .bool b=>eqV (.bl b) x
 | .int i _=>eqV (.int i) x
 | .str z _=>eqV (.str z) x
 | _=>false
theorem Bm (r:RelV y u) (f:jZ y=true):eqU x u=eqV y x:=by
 cases y with
 | non=>cases r;rfl
 | bl b=>cases r;rfl
 | int i=>obtain⟨t,rfl⟩:=r;rfl
 | str z=>obtain⟨t,rfl⟩:=r;rfl
 | _=>exact absurd (show false=true from f) Oc
theorem kQ {x:V}:∀{xs:List V}{us:List NB},Vals xs us->xs.all jZ=true->us.any (eqU x)=xs.any fun y=>eqV y x
 | _,_,.nil,_=>rfl
 | y::xs,u::us,.cons r t,f=>by
  rw[Qh,N_] at f
  rw[QE,QE,Bm r f.1,kQ t f.2]
theorem jr {A:Om}{s:NF}{x:V}{v:NB} (rx:RelV x v) (fx:jZ x=true):∀{xs:List V}{us:List NB},Vals xs us->xs.all jZ=true->∀u∈us,OQ A s u v (eqU x u)
 | _,_,.nil,_=>fun u hu=>by cases hu
 | y::xs,u::us,.cons r t,f=>fun u' hu=>by
  rw[Qh,N_] at f
  rcases NQ.mp hu with rfl | hu
  ·rw[Bm r f.1];exact Iv r rx f.1 fx
  ·exact jr rx fx t f.2 u' hu
noncomputable def inV (x:V) (xs:List V):Bool:=xs.any fun y=>eqV y x
noncomputable def rIn (K:gV) (neg:Bool):R2:=fun x y H Q=>∃p xs,y=.ref p/\(SqL K H p xs\/SqT K H p xs)/\jZ x=true/\xs.all jZ=true/\Q (.bl (if neg then !inV x xs else inV x xs)) H
theorem l9:OpR X (compareOp .In) (rIn X.K false):=by
 intro pins s σ H x y v u Q I rx ry h
 obtain⟨p,xs,rfl,hq,fx,fs,q⟩:=h
 cases ry
 rcases hq with hq | hq
 ·obtain⟨its,r,pl,hz⟩:=I.list hq
  refine SeqAt.in_listAt (eqU x) pl.isList (fun w hw=>jr rx fx r fs w (by simp_all)) ⟨.bl _,H,I,rfl,?_⟩
  rw[show its.toArray.any (eqU x)=its.any (eqU x) by simp,kQ r fs]
  exact q
 ·obtain⟨its,r,pl,hz⟩:=I.tuple hq
  refine SeqAt.in_tupleAt (eqU x) pl (fun w hw=>jr rx fx r fs w (by simp_all)) ⟨.bl _,H,I,rfl,?_⟩
  rw[show its.toArray.any (eqU x)=its.any (eqU x) by simp,kQ r fs]
  exact q
theorem sC:OpR X (compareOp .NotIn) (rIn X.K true):=by
 intro pins s σ H x y v u Q I rx ry h
 obtain⟨p,xs,rfl,hq,fx,fs,q⟩:=h
 cases ry
 rcases hq with hq | hq
 ·obtain⟨its,r,pl,hz⟩:=I.list hq
  refine SeqAt.notIn_listAt (eqU x) pl.isList (fun w hw=>jr rx fx r fs w (by simp_all)) ⟨.bl _,H,I,rfl,?_⟩
  rw[show its.toArray.any (eqU x)=its.any (eqU x) by simp,kQ r fs]
  exact q
 ·obtain⟨its,r,pl,hz⟩:=I.tuple hq
  refine SeqAt.notIn_tupleAt (eqU x) pl (fun w hw=>jr rx fx r fs w (by simp_all)) ⟨.bl _,H,I,rfl,?_⟩
  rw[show its.toArray.any (eqU x)=its.any (eqU x) by simp,kQ r fs]
  exact q
theorem tR:cb X (.builtin "len") (fun xs H Q=>∃p ys,xs=[.ref p]/\(SqL X.K H p ys\/SqT X.K H p ys)/\Q (.int ys.length) H):=by
 intro pins s σ H xs us Q I r h
 obtain⟨p,ys,rfl,hq,q⟩:=h
 obtain⟨u,rfl,rx⟩:=vals1 r
 cases rx
 have hn:=ju
 rcases hq with hq | hq
 ·obtain⟨its,r',pl,hz⟩:=I.list hq
  have hlen:=r'.length
  exact Calls.call_len_list pl.isList (by grind) ⟨.int ys.length,H,I.tok _,⟨s.toks+1,by simp_all⟩,q⟩
 ·obtain⟨its,r',pl,hz⟩:=I.tuple hq
  have hlen:=r'.length
  exact len_tuple pl (by grind) ⟨.int ys.length,H,I.tok _,⟨s.toks+1,by simp_all⟩,q⟩
theorem tm:cb X (.builtin "len") (fun xs H Q=>∃z,xs=[.str z]/\z.length<=sizeLine/\Q (.int z.length) H):=by
 intro pins s σ H xs us Q I r h
 obtain⟨z,rfl,hz,q⟩:=h
 obtain⟨u,rfl,t,rfl⟩:=vals1 r
 have hn:=ju
 exact len_str (by lia) ⟨.int z.length,H,I.tok _,⟨_,rfl⟩,q⟩
theorem cb.or (h:cb X f r) (h':cb X f r'):cb X f (fun xs H Q=>r xs H Q\/r' xs H Q):=by
 intro pins s σ H xs us Q I rs q
 rcases q with q | q
 ·exact h pins s σ H xs us Q I rs q
 ·exact h' pins s σ H xs us Q I rs q
theorem jV:cb X (.type "tuple") (fun xs H Q=>∃p ys,xs=[.ref p]/\((SqL X.K H p ys/\∀l,H l=none->Q (.ref l) (upd H l (.tup ys)))\/(SqT X.K H p ys/\Q (.ref p) H))):=by
 intro pins s σ H xs us Q I r h
 obtain⟨p,ys,rfl,h⟩:=h
 obtain⟨u,rfl,rx⟩:=vals1 r
 cases rx
 rcases h with⟨hq,q⟩ | ⟨hq,q⟩
 ·obtain⟨its,r',pl,hz⟩:=I.list hq
  have hlen:=r'.length
  refine call_tuple_list pl.isList (fun h' kp=>?_) (by simp_all)
  have I1:Inv X pins σ H { s with heap:=h' }:=I.kept (t':=s.toks) kp
  have I2:Inv X pins σ (upd H h'.objs.size (.tup ys)) { s with heap:=h'.push { cls:=.type "tuple", data:=.seq its.toArray } }:=
   I1.laid (t':=s.toks) (fun b o e=>k5 _ e) (NC _) (show c6 X.prog X.w _ _ _ (.tup ys) from⟨hz,its,r',mR.new _ _⟩)
  exact⟨.ref h'.objs.size,_,I2,rfl,q _ (I1.hok.fresh (NC _))⟩
 ·obtain⟨its,r',pl,hz⟩:=I.tuple hq
  exact call_tuple_same pl ⟨.ref p,H,I,rfl,q⟩
noncomputable def tyV (K:gV) (T:String) (x:V) (H:Hp):Prop:=match x with
 | .str _=>T="str"
 | .int _=>T="int"
 | .ref p=>(T="list" /\ ∃xs,SqL K H p xs)\/(T="tuple" /\ ∃o,K.lookup p=some o/\o.cls=.type "tuple" /\ o.dict=none) ∨
   (T="dict" /\ ((∃kvs,H p=some (.dK kvs))\/∃kvs,H p=some (.dT kvs)))\/(T="set" /\ ∃S n,H p=some (.set S n))\/(T="tuple" /\ ∃xs,H p=some (.tup xs))
 | _=>False
theorem H_ {pins:List (Addr × Obj)}{σ:St}{H:Hp}{s:NF}{T:String}{x:V}{v:NB} (I:Inv X pins σ H s) (r:RelV x v) (ty:tyV X.K T x H) :
  s.TypeIs v T/\∀a,v=.ref a->∃ob,s.heap.get? a=some ob/\ob.dict=none:=by
 cases x with
 | str z=>
  obtain⟨t,rfl⟩:=r
  cases (show T="str" from ty)
  exact⟨typeIs_str s z t,fun _ e=>nomatch e⟩
 | int i=>
  obtain⟨t,rfl⟩:=r
  cases (show T="int" from ty)
  exact⟨TF s i t,fun _ e=>nomatch e⟩
 | ref p=>
  cases r
  rcases ty with⟨rfl,xs,hq⟩ | ⟨rfl,o,hk,hc,hd⟩ | ⟨rfl,hk⟩ | ⟨rfl,S,n,hk⟩ | ⟨rfl,xs,hk⟩
  ·obtain⟨its,_,pl,_⟩:=I.list hq
   refine⟨pl.isList.typeIs,fun a e=>?_⟩
   cases e
   obtain⟨o,n,e,c,hd,_⟩:=pl
   exact⟨o,e,hd⟩
  ·refine⟨⟨o,I.kIn p o hk,hc⟩,fun a e=>?_⟩
   cases e
   exact⟨o,I.kIn _ o hk,hd⟩
  ·have z:∃o,s.heap.get? p=some o/\o.ExactDict:=by
    rcases hk with⟨kvs,hk⟩ | ⟨kvs,hk⟩
    ·obtain⟨_,_,_,_,o,_,_,e,ex,_⟩:=I.hok p _ hk
     exact⟨o,e,ex⟩
    ·obtain⟨_,_,_,_,o,_,_,e,ex,_⟩:=I.hok p _ hk
     exact⟨o,e,ex⟩
   obtain⟨o,e,ex⟩:=z
   refine⟨⟨o,e,ex.1⟩,fun a e2=>?_⟩
   cases e2
   exact⟨o,e,ex.2.1⟩
  ·obtain⟨o,_,_,_,e,ex,_⟩:=I.hok p _ hk
   refine⟨⟨o,e,ex.1⟩,fun a e2=>?_⟩
   cases e2
   exact⟨o,e,ex.2.1⟩
  ·obtain⟨_,_,_,o,e,⟨c,_⟩,hd⟩:=I.hok p _ hk
   refine⟨⟨o,e,c⟩,fun a e2=>?_⟩
   cases e2
   exact⟨o,e,hd⟩
 | _=>exact QD ty
noncomputable def tBM (K:gV) (T:String) (r:V->List V->Hp->VK->Prop) (to:TE) (t:TA):TE:=fun σ H Q=>to σ H fun x H1=>tyV K T x H1/\t σ H1 fun xs H2=>r x xs H2 Q
variable {o e:Expr}{es:List Expr}{to:TE}{t:TA}{name:Str}{apos cpos:Pos}{T id:String}{r:V->List V->Hp->VK->Prop}
theorem J_ (pa:PlainAttrs T) (slot:Slot T name id) (hty:typeOf (.builtin id)=pure (.type "method_descriptor")) (hm:MtR X id r) (ho:PE X o to) (ha:PA X (e::es) t)
  (hbase:attributeBase o name X.env (eval o X.env)=eval o X.env:=by rfl)
  (hfew:((backTo cpos (starEach (e::es) X.env)).all (fun x=>!x.1)&&(backToKw cpos (keywordEach [] X.env)).all (fun x=>x.1.isSome)
   && decide ((e::es).length+([]:List T6).length+(if ([]:List T6).isEmpty then 0 else 1)<30))=true:=by rfl)
  (hline:(apos.endLine == cpos.line)=true:=by rfl) (hs:starEach (e::es) X.env=(false,eval e X.env)::starEach es X.env:=by rfl) (hplain:(backTo cpos (starEach es X.env)).any (·.1)=false:=by rfl) :
  PE X (.Call (.Attribute o name apos) (e::es) [] cpos) (tBM X.K T r to t):=by
 intro pins s σ H Q I h
 refine wpAny_Call_method_late hbase hfew hline rfl (thn (ho pins s σ H _ I h) fun v s1 ⟨x,H1,I1,r1,ty,q1⟩=>?_)
 obtain⟨h1,h2⟩:=H_ I1 r1 ty
 refine⟨T,id,pa,slot,hty,h1,h2,?_⟩
 have hA:=ha cpos pins s1 σ H1 _ I1 q1
 rw[hs] at hA ⊢
 refine Calls.callWith_builtin (by show(false || (backTo cpos (starEach es X.env)).any (·.1))=false;rw[hplain]<;>rfl) (Calls.evalArgs_plain ?_)
 exact thn hA fun us s2 ⟨vs,H2,I2,r2,q2⟩=>hm pins s2 σ H2 x vs v us Q I2 r1 r2 q2
/- xs.append(e),list.index on a module's tuple .. are MtR facts of 06m -/
end
noncomputable def MtM (X:Cx) (id:String) (r:V->List V->Hp->VK->Prop):Prop:=
 ∀pins s (σ:St) H x xs v us Q , Inv X pins σ H s->RelV x v->Vals xs us->r x xs H Q →
  wpAny (model X.prog X.w) X.A (call (.builtin id) (v::us)) (EP X pins σ Q) X.xe s
theorem Vals.one:∀{x:V}{us:List NB},Vals [x] us->∃u,us=[u]/\RelV x u
 | _,_,.cons r .nil=>⟨_,rfl,r⟩
theorem Vals.rep {xs:List V}{us:List NB} (h:Vals xs us):∀k:Nat,Vals (N1 k xs).flatten (N1 k us).flatten
 | 0=>.nil
 | k+1=>by
  rw[Qi,Qi,R1,R1]
  exact Vals.append h (Vals.rep h k)
theorem foldl_rep (its:List NB):∀(k:Nat) (acc:List NB),
  TH (fun x1 x2=>x1++x2) acc.toArray (N1 k its.toArray)=(acc++(N1 k its).flatten).toArray
 | 0,acc=>by simp
 | k+1,acc=>by
  have e:acc.toArray++its.toArray=(acc++its).toArray:=by simp
  have e2:(acc++its)++(N1 k its).flatten=acc++(N1 (k+1) its).flatten:=by
   rw[Qi,R1,Oj]
  rw[<- e2,<- foldl_rep its k (acc++its),<- e,Qi,Sm]
section
variable {X:Cx}{pins:List (Addr × Obj)}{σ:St}{H:Hp}{s:NF}{l b:Addr}{xs ys zs:List V}
theorem Inv.L7 {its its':List NB} (I:Inv X pins σ H s) (hH:H l=some (.lst xs))
  (e:s.heap.get? l=some { cls:=.type "list", data:=.seq its.toArray n }) (hf:f its.toArray=its'.toArray) (hv:Vals ys its') (hz:ys.length<=sizeLine) :
  Inv X pins σ (upd H l (.lst ys)) { s with heap:=s.heap.update l (Qs f),toks:=t' }:=by
 have q:=PySem.IsL.update e f
 rw[hf] at q
 refine I.write (x:=l) (e:=l) (by rw[hH];exact trivial) (.inl rfl) (fun b' u hb hu=>(Heap.get?_update_other s.heap (Qs f) (Tq hb)).trans hu) ⟨_,q⟩ ?_
 exact⟨hz,its',_,hv,q⟩
theorem Inv.D7 (I:Inv X pins σ H s) (hv:Vals ys its) (hz:ys.length<=sizeLine) :
  Inv X pins σ (upd H s.heap.objs.size (.lst ys)) { s with heap:=s.heap.push { cls:=.type "list", data:=.seq its.toArray },toks:=t' }:=
 I.laid (fun _ _ q=>k5 _ q) (NC _) ⟨hz,its,0,hv,NH _ rfl⟩
theorem Inv.fresh (I:Inv X pins σ H s):H s.heap.objs.size=none:=I.hok.fresh (NC _)
theorem Inv.LK (I:Inv X pins σ H s) (hH:H l=some (.lst xs)):xs.length<=sizeLine/\∃its n,Vals xs its/\xs.length=its.length/\s.heap.get? l=some { cls:=.type "list", data:=.seq its.toArray n }:=by
 obtain⟨z,its,n,r,e⟩:=I.hok l _ hH
 exact⟨z,its,n,r,r.length,e⟩
theorem B8 (h:n<=sizeLine):QR n=false:=by
 unfold QR
 simp_all
end
section
variable {X:Cx}
noncomputable def yb:V->List V->Hp->VK->Prop:=fun x vs H Q=>∃l xs y,x=.ref l/\vs=[y]/\H l=some (.lst xs)/\xs.length<sizeLine/\Q .non (upd H l (.lst (xs++[y])))
theorem jI:MtM X "list.append" yb:=by
 intro pins s σ H x vs v us Q I rx rv h
 obtain⟨l,xs,y,rfl,rfl,hH,hz,q⟩:=h
 cases rx
 obtain⟨u,rfl,ru⟩:=rv.one
 obtain⟨z,its,n,r,hl,e⟩:=I.LK hH
 refine TJ F.slot_list_append ⟨_,e,rfl⟩ F.entry_list_append (F.args_list_append_2 _ _) (PySem.list_append l its.toArray n u (by simp_all)) ⟨e,?_⟩
 refine⟨.non,_,I.L7 (its':=its++[u]) hH e (by simp) (r.append (.cons ru .nil)) ?_,rfl,q⟩
 grind
theorem len_rep {α:Type} (xs:List α) (k):(N1 k xs).flatten.length=k*xs.length:=by
 simp
end
end L2
namespace Att
open PySem PySem.W PySem.Calls PyProof.Rows
theorem mU:∀ns vs , WellAll P h vs (ns.map WData.int)->Rf vs ns:=by
 intro ns
 induction ns with
 | nil=>
  intro vs w
  rw[PZ] at w
  cases w
  exact .nil
 | cons n ns ih=>
  intro vs w
  rw[NV] at w
  cases w with
  | cons a b=>
   cases a
   exact .cons _ _ (ih _ b)
theorem Aw {l:TQ} (hn:l.most=some n)
  (hpre:l.row.toRowW.claim.pre args=true) (hwl:WellAll P h vals args) :
  ∃a vs ns,vals=[Pr a]/\args=[WData.list (ns.map WData.int)]/\h.get? a=some { cls:=.type "list", data:=.seq vs.toArray }/\Rf vs ns/\ns.length<=n:=by
 have hsh:WShape.hasAll [] args [.list .int]=true:=(pre_splitW hpre).1
 have hc:l.pre.holds [] { args:=args }=true:=(pre_splitW hpre).2
 obtain⟨d,r,rfl,h1,h2⟩:=hasAllW_cons hsh
 obtain rfl:=hasAllW_nil h2
 obtain⟨xs,rfl,h3⟩:=hasW_list h1
 obtain⟨ns,rfl⟩:=items_int h3
 have hlen:ns.length<=n:=by
  unfold TQ.pre at hc
  have h4:(WTm.not (.lt (.lit (.int (n:Int))) (.len (.arg 0)))).holds [] { args:=[.list (ns.map .int)] }=true:=by
   have h4:=(holds_andW hc).1
   simp_all
  have h5:=condW_of h4 (w_not (w_lt w_lit (w_len_list (w_arg rfl))))
  simp_all
 cases hwl with
 | cons w1 w2=>
  cases w2
  cases w1 with
  | list ho hall=>exact⟨_,_,ns,rfl,rfl,ho,mU ns _ hall,hlen⟩
theorem Ae (l:TQ) (args):l.row.toRowW.claim.post args (.bool true) args=true:=
 postW_of (r:=l.row.toRowW) (X:=(true == true))
  (show WShape.has [] (.bool true) .bool=true by rfl)
  (show(WTm.eq .res (.lit (.bool true))).value [] { args:=args,res:=some (.bool true),after:=args }=some (.bool (true == true)) from w_eq_bool (w_res rfl) w_lit) rfl
theorem uH {l:TQ}
  (hn:l.most=some n) (hdf:d.params.defaults=[])
  (call:∀w aE s₁ mg mb fa o pm cd doc a vs ns ,
   Ground q loose [] XP w aE mg mb s₁.heap->YP w s₁.heap →
   s₁.heap.get? fa=some o->o.data=.func (docDef d.name d.params d.body d.scope pm cd doc)->s₁.heap.CodeRec cd d.name->mg d.name=some (.ref fa) →
   s₁.heap.get? a=some { cls:=.type "list", data:=.seq vs.toArray }->Rf vs ns->ns.length<=n->s₁.gens = #[] →
   codeAny (model l.prog w) callerA (.call (.ref fa) ⟨[.ref a],[]⟩) (fun r s'=>r=.ok (.ret (.bool true))/\OldK s₁.heap s'.heap/\s'.os=s₁.os/\Sk s'.gens) s₁) :
  WalkO q loose XP YP l.row.toRowW d [] (fun f vs=>TL f vs):=by
 intro w aE s₁ mg mb G Y fa o pm cd doc dV kV ho hd hcd hD hmg hg args vals as hpre hlay hrd hwl hlo
 obtain rfl:dV=.none:=Dflts.none hD hdf
 obtain rfl:kV=.none:=Dflts.noKw hD
 obtain⟨a,vs,ns,rfl,rfl,hobj,hints,hlen⟩:=Aw hn hpre hwl
 refine enter_call (Pg (call w aE s₁ mg mb fa o pm cd doc a vs ns G Y ho (fd_plain hd) hcd hmg hobj hints hlen hg) fun r s' hq=>?_)
 obtain⟨rfl,h2,h3,h4⟩:=hq
 exact⟨.inl ⟨.bool true,.bool true,[],rfl,fun _=>rfl,.bool true,Ae l _,fun _=>⟨Rg,fun _ hm=>(nomatch hm)⟩⟩,h2,h3,h4⟩
end Att
namespace L2
open PySem PySem.Spec PyProof.Rows
theorem qZ:∀{vs:List NB}{ns:List Int},Rf vs ns->Vals (ns.map V.int) vs
 | _,_,.nil=>.nil
 | _,_,.cons n t h=>.cons ⟨t,rfl⟩ (qZ h)
noncomputable def LY (H:Hp):Prop:=∀b,H b=none\/∃o xs,H b=some (.frz o (.lst xs))
end L2
/- THE LAST THEOREM (shape;LID,My.* are yours):
  My.Adr: a structure of the addresses that your layer names (classes,functions);My.Txt K t: a structure (Prop) of the equations over K;
  My.txt_mk:{K} {implicit addresses ..} (e1:nsIn K mainGlobals "law" = some (some (.ref f))) (e2:K.lookup f=some ⟨oc,od,.func (fnOf "law" "law" params body scope dV kV doc pm an cdv ct),sl⟩) (e3:codeIn K cdv "law" = true) .. : ∃t,My.Txt K t
(the tactic k_is has no namespace: write k_is) -/
namespace L2
open PySem PySem.Spec PyProof.Rows
noncomputable def eh (s:Stmt):R0:=match s with
 | .FunctionDef _ a _ _ _ _ _ _ _ _=>a
 | _=>{ posonlyargs:=[],args:=[],vararg:=none,kwonlyargs:=[],kw_defaults:=[],kwarg:=none,defaults:=[] }
noncomputable def bW (s:Stmt):List Stmt:=match s with
 | .FunctionDef _ _ b _ _ _ _ _ _ _=>b
 | _=>[]
noncomputable def aj (s:Stmt):Ru:=match s with
 | .FunctionDef _ _ _ _ _ _ sc _ _ _=>sc
 | _=>{ kind:=.function,names:=[],isGenerator:=false,isCoroutine:=false }
noncomputable abbrev CX0:CXT:=fun _ _ _ _ _ _=>False
noncomputable abbrev E0:XK:=fun _ _ _=>False
theorem J7:Passes CX0 X E0:=fun _ _ _ _ _ _ _ h=>h.elim
structure Fun (K) (x qual) (st) (f) (fd):Prop where
 ex:∃oc od kV doc pm an cdv ct osl,
  fd=Oy x qual (eh st) (bW st) (aj st) .none kV doc pm an cdv ct/\K.lookup f=some ⟨oc,od,.func fd,osl⟩/\Qr K cdv qual=true
 kp:OF K (.ref f)=true
section
variable {P:NW}{w:Oo}{K:gV}{mg:Str->Option NB}{base:Heap}
theorem Fun.ok {st:Stmt} (F:Fun K x qual st f fd) (S:az N ps (aj st)) (len:∀vs H Q E,sp vs H Q E->vs.length=ps.length)
  (hbody:∀cdv A outer s H vs Q E , fD k (A.deeper (envOfC qual (aj st) s.heap.objs.size f cdv))->sp vs H Q E →
   ∃t,PSs (gg CX0 P w K mg base N qual (aj st) f cdv A outer s H E).nox (bW st) t/\t { nx:=fun _ H'=>Q .non H',rt:=Q } (start N vs) H):eK P w K mg base CX0 (k+1) f fd ps sp:=by
 obtain⟨oc,od,kV,doc,pm,an,cdv,ct,osl,rfl,lk,hcd⟩:=F.ex
 refine Kk lk hcd S len fun A outer s H vs Q E hr hsp=>?_
 obtain⟨t,h,q⟩:=hbody cdv A outer s H vs Q E hr hsp
 exact⟨t,h.nox,q⟩
theorem Fun.binds {st:Stmt} (F:Fun K x qual st f fd)
  (h:∀kV doc pm an cdv ct us , us.length=ps.length->bindArgs (Oy x qual (eh st) (bW st) (aj st) .none kV doc pm an cdv ct) ⟨us,[]⟩=pure (ps.zip us)):Binds K fd ps []:=by
 obtain⟨oc,od,kV,doc,pm,an,cdv,ct,osl,rfl,lk,hcd⟩:=F.ex
 exact .all (h kV doc pm an cdv ct)
theorem xP {st:Stmt}{kV doc pm cdv ct:NB} (l:K.lookup f=some ⟨oc,od,.func (Oy x qual (eh st) (bW st) (aj st) .none kV doc pm an cdv ct),osl⟩)
  (c:Qr K cdv qual=true) (k:OF K (.ref f)=true):Fun K x qual st f (Oy x qual (eh st) (bW st) (aj st) .none kV doc pm an cdv ct):=⟨⟨oc,od,kV,doc,pm,an,cdv,ct,osl,rfl,l,c⟩,k⟩
end
noncomputable def PTs (X:Cx) (ifs:List Expr) (t:TT):Prop:=
 ∀pins s (σ:St) H Q , Inv X pins σ H s->t σ H Q →
  wpAny (model X.prog X.w) X.A (forIn ifs true fun c r=>if r=true then do let ok ← isTrue c X.env (eval c X.env);pure (PH ok) else pure (PH r)) (TP X pins σ Q) X.xe s
noncomputable def Ka:TT:=fun _ H Q=>Q true H
theorem E3:PTs X [] Ka:=fun _ _ _ H _ I h=>wpAny_tests_nil ⟨H,I,h⟩
theorem Dz (h:PT X c t):PTs X [c] t:=fun pins s σ H Q I q=>wpAny_tests_one (h pins s σ H Q I q)
theorem vY (I:Nat->NF->Prop)
  (turn:∀n s,I n s->wpAny (model prog w) A (pyNext it) (fun r s₁=>match r with
   | none=>R (.ok .next) s₁
   | some v=>wpAny (model prog w) A (letOwnedTupleGo target it v) (fun _ s₁=>wpAny (model prog w) A (assign target env v) (fun _ s₂=>
     wpAny (model prog w) A (forIn ifs true fun c r=>if r=true then do let ok ← isTrue c env (eval c env);pure (PH ok) else pure (PH r)) (fun ok s₃=>
      if ok=true then wpAny (model prog w) A (eval elt env) (fun x s₄=>
       wpAny (model prog w) A (call (.builtin "list.append") [acc,x]) (fun _ s₅=>∃m,m<n/\I m s₅) (fun _ _=>False) s₄) (fun _ _=>False) s₃
      else ∃m,m<n/\I m s₃) (fun _ _=>False) s₂) (fun _ _=>False) s₁) (fun _ _=>False) s₁) (fun _ _=>False) s)
  (n) (h:I n s) :
  codeAny (model prog w) A (.compLoop (.ListComp elt [⟨target,iter,ifs,0⟩] scope pos) 0 it acc env) R s:=by
 refine Tg rfl I (fun n s hI=>?_) n h
 refine Ts ?_
 refine R7 ?_
 refine k3 (Qe (k3 (OW (turn n s hI) (fun r s₁ h₁=>?_) fun _ _ h'=>h')))
 cases r with
 | none=>exact td h₁
 | some v=>
  refine k3 (OW h₁ (fun _ s₁' h₁'=>?_) fun _ _ h'=>h')
  refine k3 (OW h₁' (fun _ s₂ h₂=>k3 (OW h₂ (fun ok s₃ h₃=>?_) fun _ _ h'=>h')) fun _ _ h'=>h')
  cases ok with
  | false=>exact td ⟨rfl,h₃⟩
  | true=>
   exact k3 (k3 (OW h₃ (fun x s₄ h₄=>k3 (OW h₄ (fun _ s₅ h₅=>td (td ⟨rfl,h₅⟩)) fun _ _ h'=>h')) fun _ _ h'=>h'))
noncomputable def bO (X:Cx) (scope:Ru) (cl:List (Str × Addr)) (C:Addr) (aE:NF) (aG:Hp) (fp:List Addr) (N':List Str):Cx:=
 { X with N:=N',aE:=aE,aG:=aG,env:=compEnvC scope cl C X.env,outer:=X.stack,ex:=fp,fn:=fun _=>false,pn:=[] }
theorem kg {env:Env}:∀(names:List (Str × PM)) (cs:List (Str × Addr)),(∀y∈names,y.2=.free->∃a,env.cells.lookup y.1=some a)->(∀x c,cs.lookup x=some c->env.cells.lookup x=some c) →
  ∃cl:List (Str × Addr),(forIn names cs fun(y:Str × PM) (r:List (Str × Addr))=>if (y.2 == Qj)=true then do let a ← cellOf env y.1;pure (PH ((y.1,a)::r)) else pure (PH r):Sem (List (Str × Addr)))=pure cl ∧
   (∀x c,cl.lookup x=some c->env.cells.lookup x=some c)/\(∀x,((x,Qj)∈names\/∃c,cs.lookup x=some c)->∃c,cl.lookup x=some c)
 | [],cs,_,h=>⟨cs,rfl,h,fun x hx=>by
   simp_all⟩
 | (n,k)::r,cs,hf,h=>by
  by_cases hk:k=.free
  ·subst hk
   obtain⟨a,ha⟩:=hf (n,.free) (by simp) rfl
   obtain⟨cl,e,h1,h2⟩:=kg r ((n,a)::cs) (fun y hy=>hf y (ox _ hy)) (fun x c q=>by
    grind)
   refine⟨cl,?_,h1,fun x hx=>?_⟩
   ·rw[List.forIn_cons]
    have e0:cellOf env n=pure a:=by unfold cellOf;rw[ha]
    simp_all
   ·have hc:∀z c,cs.lookup z=some c->∃c,((n,a)::cs).lookup z=some c:=fun z c q=>by
     grind
    rcases hx with z | ⟨c,z⟩
    ·rcases NQ.mp z with q | q
     ·simp_all
     simp_all
    simp_all
  ·obtain⟨cl,e,h1,h2⟩:=kg r cs (fun y hy=>hf y (ox _ hy)) h
   grind
theorem j7 (h:∀y∈scope.names,y.2=.free->∃a,env.cells.lookup y.1=some a) :
  ∃cl:List (Str × Addr),closureFor scope env=pure cl/\(∀x c,cl.lookup x=some c->env.cells.lookup x=some c)/\(∀x,(x,Qj)∈scope.names->∃c,cl.lookup x=some c):=by
 obtain⟨cl,e,h1,h2⟩:=kg scope.names [] h (fun x c q=>by cases q)
 refine⟨cl,?_,h1,fun x hx=>h2 x (.inl hx)⟩
 exact NK (congrArg (fun t:Sem (List (Str × Addr))=>t >>= fun cs=>pure cs) e) rfl
theorem lookup_mem {x:Str}{k:PM}:∀{names:List (Str × PM)},names.lookup x=some k->(x,k)∈names
 | [],h=>by cases h
 | (n,j)::r,h=>by
  rw[List.lookup_cons] at h
  cases hx:x == n with
  | true=>
   simp_all
  | false=>rw[hx] at h;exact ox _ (lookup_mem h)
theorem eH {env:Env} (hf:env.scope.kind=.function):∀{names:List (Str × PM)}{x:Str},names.lookup x=some .free->env.kindOf x=some .cell →
  (names.map fun(n,k)=>if (k == Qj&&env.scope.kind == .function&&env.kindOf n == some .cell) then (n,PM.cell) else (n,k)).lookup x=some .cell
 | [],_,h,_=>by cases h
 | (n,k)::r,x,h,hc=>by
  have ih:=@eH env hf r x
  grind
theorem fB {env:Env}:∀{names:List (Str × PM)}{x:Str}{k:PM},(names.map fun(n,k)=>if (k == Qj&&env.scope.kind == .function&&env.kindOf n == some .cell) then (n,PM.cell) else (n,k)).lookup x=some k →
  names.lookup x=some k\/(names.lookup x=some .free/\k=.cell)
 | [],_,_,h=>by cases h
 | (n,j)::r,x,k,h=>by
  have ih:=@fB env r x k
  grind
noncomputable def vg (ix:List Nat) (σ:St):St:=none::ix.map fun i=>(σ[i]?).join
noncomputable abbrev Jb (J:It) (tt:TT) (te:TE) (σ':V->St) (acc:Addr) (H1:Hp) (Q:VK):Prop:=
 ∃W:Nat->Nat->List V->Hp->Prop,(∃m,W 0 m [] (upd H1 acc (.lst [])))/\∀i m ys H,W i m ys H →
  (J.stop i H/\Q (.ref acc) H)\/(J.go i H/\∀x H',J.yld i H x H'->tt (σ' x) H' fun b H2=>if b=true then te (σ' x) H2 fun y H3=>
    H3 acc=some (.lst ys)/\ys.length<sizeLine/\∃m',m'<m/\W (i+1) m' (ys++[y]) (upd H3 acc (.lst (ys++[y])))
   else ∃m',m'<m/\W (i+1) m' ys H2)
noncomputable def FY (wi:TI) (ix:List Nat) (tt:TT) (te:TE):TE:=fun σ H Q=>wi σ H fun J H1=>∀acc,H1 acc=none->Jb J tt te (fun x=>(vg ix σ).set 0 (some x)) acc H1 Q
theorem HOk.sameBut (x:HOk P w H h) (hn:H C=none) (k:∀b u,b≠C->h.get? b=some u->h'.get? b=some u):HOk P w H h':=fun b u e=>by
 have nC:∀b u,H b=some u->b≠C:=fun b u e z=>by simp_all
 refine(x b u e).lU (fun c v hc q=>k c v ?_ q) (fun _ q=>q) fun _ _ q=>q
 grind
theorem vH:isSubtype (.type "tuple") (.type "set")=pure false:=by rfl
theorem t_:isSubtype (.type "tuple") (.type "frozenset")=pure false:=by rfl
noncomputable abbrev gc (led:Bool):Obj:={ cls:=.type "set", dict:=none,data:=.set #[] 0 (.fresh 0 0 led) }
set_option maxHeartbeats 3200000 in
theorem set_tuple {prog:NW}{w:Oo}{B:Om}{Er:NB->NF->Prop}{z:NF}{a:Addr}{its:Array NB}{zs:List Int}{Q:NB->NF->Prop}
  (hh:B.handled=none) (ht:z.heap.IsTuple a its) (hi:Rf its.toList zs) (hb:its.size+1<scanBound)
  (fin:∀(g':Heap) (tk:Nat),g'.SetOf (intKind prog w) z.heap.objs.size (fun k'=>(firstMet (fun i=>zs.getD i 0) its.size).any (· == k')) (firstMet (fun i=>zs.getD i 0) its.size).length →
   (∀b o,b<z.heap.objs.size->z.heap.get? b=some o->g'.get? b=some o)->Q (.ref z.heap.objs.size) { z with heap:=g',toks:=tk }) :
  wpAny (model prog w) B (call (.type "set") [.ref a]) Q Er z:=by
 obtain⟨_,_,_⟩:=OM.mro
 have:=OM.made
 have:=OM.sub
 refine RY (QZ ?_)
 show wpAny _ _ (callAny (.type "set") _) _ _ _
 refine td ⟨RK _ (by decide +kernel),Pd F.entry_type_call ?_⟩
 rw[Om.under_plain (weight_type_call_type "set" [.ref a] []) rfl]
 have:=OM.notType
 have:=OM.canCreate
 have:=F.typeCall_set_1 (.ref a)
 repeat (any_goals (first | assumption | wp_step))
 refine Pg (code_set_new_1 (.ref a) (E:=Er) (Q₁:=fun v y=>∃led:Bool,v=.ref z.heap.objs.size/\y={ z with heap:=z.heap.push (gc led) }) fun led=>⟨led,rfl,rfl⟩) fun r y hr=>?_
 cases r with
 | error e=>exact hr
 | ok fl=>
  cases fl with
  | ret v=>
   obtain⟨led,rfl,rfl⟩:=hr
   have hS:(z.heap.push (gc led)).get? z.heap.objs.size=some (gc led):=NH _ rfl
   have hT:NF.TypeIs { z with heap:=z.heap.push (gc led) } (.ref z.heap.objs.size) "set" := ⟨_,hS,rfl⟩
   have:=OM.init.lookup
   have:=OM.init.bind (.ref z.heap.objs.size)
   repeat (any_goals (first | assumption | wp_step))
   refine Pg (codeAny_call_builtin (R:=wants (fun r y=>r=.none/\∃g' tk,y={ z with heap:=g',toks:=tk } ∧
     g'.SetOf (intKind prog w) z.heap.objs.size (fun k'=>(firstMet (fun i=>zs.getD i 0) its.size).any (· == k')) (firstMet (fun i=>zs.getD i 0) its.size).length ∧
     (∀b o,b<z.heap.objs.size->z.heap.get? b=some o->g'.get? b=some o)) Er) OM.init.plain F.entry_set_init (check_set_init_1 hT ?_)) fun r₂ y₂ hr₂=>?_
   ·obtain⟨ol,hol,hcl,nl,hdl⟩:=id ht
    obtain⟨oc,od,oda,osl⟩:=ol
    simp only at hcl hdl
    subst hcl;subst hdl
    have hol':(z.heap.push (gc led)).get? a=some { cls:=.type "tuple", dict:=od,data:=.seq its nl,slots:=osl }:=k5 _ hol
    have:=vH
    have:=t_
    have:(QC "tuple" == QC "dict")=false:=by decide
    have ht1:(z.heap.push (gc led)).IsTuple a its:=⟨_,hol',rfl,nl,rfl⟩
    unfold OJ.«set.__init__» noKeywords OJ.Frozenset.updateFrom
    generalize hPI:pyIter=PI
    wp_walk
    subst hPI
    refine Qw ht1 ?_
    refine k3 (RQ ?_)
    have hlS:a<z.heap.objs.size:=tv hol
    have hneI:a≠(z.heap.push (gc led)).objs.size:=by
     rw[Rl];exact NS (Qa hlS)
    have hSf:z.heap.objs.size∉[(z.heap.push (gc led)).objs.size,a]:=by
     rw[Rl];simp only[NQ,NY,PX,or_false,not_or]
     exact⟨NS (Ph _),Qd hlS⟩
    have hval:∀(i:Nat) (v:NB),its[i]?=some v->∃t,v=.int ((fun i=>zs.getD i 0) i) t:=fun i v hv=>Rf.int_at hi i v (by rw[NP];exact hv)
    refine codeAny_set_update_loopS ((T4.tuple (by simp[hh]) _ a hneI its).toS) z.heap.objs.size
     hSf (fun i=>zs.getD i 0) hval hb (its.size - 0) 0 _ (by lia) (OU _)
     ⟨⟨_,NH _ rfl,rfl,rfl⟩,?hP⟩ ?hS0 ?hR
    case hP=>exact⟨_,k5 _ hol',rfl,nl,rfl⟩
    case hS0=>
     exact SetOf_congr ((setObjOf_fresh (knd:=intKind prog w) led).setOf (k5 _ hS) (by unfold scanBound;lia)) (fun _=>rfl) rfl
    case hR=>
     intro s' hm hS'
     obtain⟨h',g',d',tk',os'⟩:=s'
     obtain rfl:g'=z.gens:=hm.gens
     obtain rfl:d'=z.drawn:=hm.drawn
     obtain rfl:os'=z.os:=hm.os
     show wpAny _ _ _ _ _ _
     refine td ?_
     show wpAny _ _ (ret Qq) _ _ _
     refine td ⟨rfl,h',tk',rfl,hS',fun b o hb e=>?_⟩
     refine hm.heap b o ?_ (k5 _ (k5 _ e))
     simp only[NQ,NY,PX,or_false,not_or]
     refine⟨NS hb,?_⟩
     show b≠(z.heap.push (gc led)).objs.size
     rw[Rl];exact NS (Qa hb)
   ·cases r₂ with
    | error e=>exact hr₂
    | ok fl₂=>
     cases fl₂ with
     | ret r=>
      obtain⟨rfl,g',tk,rfl,hS',hk'⟩:=hr₂
      repeat (any_goals (first | assumption | wp_step))
      exact fin _ _ hS' hk'
     | _=>exact hr₂.elim
  | _=>exact hr.elim
section
variable {X:Cx}
theorem uE:cb X (.builtin "isinstance") (fun vs H Q=>∃x t n b,vs=[x,.ty n]/\ki X.K H x t/\Pn X.K t (.type n)=some b/\Q (.bl b) H):=by
 intro pins s σ H xs us Q I r h
 obtain⟨x,t,n,b,rfl,ty,e,q⟩:=h
 obtain⟨u,w',rfl,r1,r2⟩:=vals2 r
 cases r2
 exact Av I r1 ty e fun tk=>⟨.bl b,H,I.tok tk,rfl,q⟩
noncomputable def unl (ns:List Int):List Int:=firstMet (fun i=>ns.getD i 0) ns.length
theorem tP (hc:X.calm=true):cb X (.type "set") (fun vs H Q=>∃p ns,vs=[.ref p]/\SqT X.K H p (ns.map V.int)/\ns.length+1<scanBound/\∀l,H l=none->Q (.ref l) (upd H l (.set (fun k=>(unl ns).any (· == k)) (unl ns).length))):=by
 intro pins s σ H xs us Q I r h
 obtain⟨p,ns,rfl,hq,hb,q⟩:=h
 obtain⟨u,rfl,rx⟩:=vals1 r
 cases rx
 obtain⟨its,r',pl,hz⟩:=I.tuple hq
 have hlen:=r'.length
 rw[NJ] at hlen
 have e0:its.toArray.size=ns.length:=by rw[N5,hlen]
 refine set_tuple (I.ok.hd hc) (show s.heap.IsTuple p its.toArray from pl) (by simpa using intsAre_of r') (by rw[e0];exact hb) fun g' tk hS hk=>?_
 rw[e0] at hS
 exact⟨.ref s.heap.objs.size,_,I.laid (fun b o e=>hk b o (tv e) e) (NC _) (show c6 X.prog X.w _ g' _ (.set _ _) from hS),rfl,q _ (I.hok.fresh (NC _))⟩
theorem qD:cb X (.builtin "len") (fun vs H Q=>∃p S n,vs=[.ref p]/\H p=some (.set S n)/\Q (.int n) H):=by
 intro pins s σ H xs us Q I r h
 obtain⟨p,S,n,rfl,hH,q⟩:=h
 obtain⟨u,rfl,rx⟩:=vals1 r
 cases rx
 obtain⟨o,es,ep,tb,ho,hex,hd,hel,hmem,hsz,hfit,rfl⟩:=(show s.heap.SetOf (intKind X.prog X.w) p S n from I.hok p _ hH)
 have hb:(es.size:Int)<2 ^ 63:=by unfold scanBound at hsz;lia
 exact PySem.call_len_set ho hex hd hfit hb ⟨.int es.size,H,I.tok _,⟨_,rfl⟩,q⟩
theorem jP {lo hi:Option Int} (ht:IsTup s.heap t items) (hs:s.heap.IsSliceOf sl vl vu .none) (pl:SV vl lo) (pu:SV vu hi)
  (h1:HT.sIx items.size 0 lo=0) (h2:HT.sIx items.size items.size hi=items.size) (h:Q (.ref t) s):wpAny (model prog w) A (getItem (.ref t) (.ref sl)) Q E s:=by
 obtain⟨os,hos,hcs,hds⟩:=id hs
 have hTs:s.TypeIs (.ref sl) "slice" := ⟨os,hos,hcs⟩
 unfold getItem
 try with_reducible refine OR ?_
 refine k3 (wpAny_sequenceKey ht.typeIs (by decide) ?_)
 refine k3 (Pc ht.typeIs OB (O0 OB ht.typeIs entry_tuple_getitem ?_ (args_tuple_getitem _ _)))
 show wpAny _ _ (OJ.Tuple.tupleItemsOf (.ref t) >>= _) _ _ s
 refine k3 (tupleItemsOf_ ht (k3 (Rq hTs ?_)))
 refine k3 (HT.gW hs pl pu ?_)
 rw[h1,h2]
 show wpAny _ _ (if (((0:Nat):Int) == 0&&(1:Int) == 1&&(items.size - 0) == items.size)=true then _ else _) _ _ s
 rw[if_pos (by simp)]
 refine k3 (k3 (Rq ht.typeIs (td ?_)))
 refine k3 (Td ?_)
 first
  | exact td ⟨_,rfl,td h⟩
  | exact k3 (td (td ⟨_,rfl,td h⟩))
noncomputable def Je (K:gV):V->Option Int->Option Int->Hp->VK->Prop:=fun x lo hi H Q=>∃a xs,x=.ref a/\SqT K H a xs/\HT.sIx xs.length 0 lo=0/\HT.sIx xs.length xs.length hi=xs.length/\Q (.ref a) H
theorem Fd:SlR X (Je X.K):=by
 intro pins s σ H x v vl vu lo hi sl Q I rx hs pl pu h
 obtain⟨a,xs,rfl,hx,h1,h2,q⟩:=h
 cases rx
 obtain⟨its,r,ht,hz⟩:=I.tuple hx
 have hlen:its.toArray.size=xs.length:=by rw[N5];exact r.length.symm
 refine⟨"tuple", _,OB.lookup,ht.typeIs,?_⟩
 exact jP ht hs pl pu (by simp_all) (by simp_all) ⟨.ref a,H,I,rfl,q⟩
noncomputable def BA (K:gV):R2:=fun x y H Q=>∃a b ys,x=.ref a/\y=.ref b/\SqT K H a []/\SqT K H b ys/\Q (.ref b) H
theorem BM:OpR X (binaryOp .Add) (BA X.K):=by
 intro pins s σ H x y v u Q I rx ry h
 obtain⟨a,b,ys,rfl,rfl,ha,hb,q⟩:=h
 cases rx
 cases ry
 obtain⟨its,r1,p1,_⟩:=I.tuple ha
 obtain⟨its2,r2,p2,_⟩:=I.tuple hb
 cases r1
 obtain⟨⟨cls,dd,data,sl⟩,ho,hc,n,hd⟩:=id p1
 obtain⟨⟨cls2,dd2,data2,sl2⟩,ho2,hc2,n2,hd2⟩:=id p2
 subst hc hd hc2 hd2
 exact Tf ⟨_,ho,rfl⟩ ⟨_,ho2,rfl⟩ Sf SU Q6 QY (QQ _ _)
  (tuple_addW0 a b _ _ n n2 dd dd2 sl sl2 (by simp)) ⟨ho,ho2,⟨.ref b,H,I,rfl,q⟩⟩
end
open AutoSeq1 (wpAny_loadPart')
noncomputable def C9 (a:Addr) (lo hi st:Int):HO:=.ext fun h=>∃t u v,h.get? a=some { cls:=.type "range", data:=.fields #[.int lo t,.int hi u,.int st v] }
noncomputable def As (lo st:Int) (n:Nat):List Int:=(ND n).map fun(i:Nat)=>lo+(i:Int)*st
theorem uy (lo st:Int) (n:Nat):(As lo st n).length=n:=by simp[As]
theorem wx {lo st:Int} (h:SQ (fun i v=>∃t,v=.int (lo+i*st) t) acc n):Vals ((As lo st n).map V.int) acc.toList:=by
 obtain⟨hs,hv⟩:=h
 have key:∀(l:List NB) (k:Nat),(∀j v,l[j]?=some v->∃t,v=Qm (lo+((k+j:Nat):Int)*st) t)->Vals (((RD k l.length).map fun(i:Nat)=>lo+(i:Int)*st).map V.int) l:=by
  intro l
  induction l with
  | nil=>intro k _;exact .nil
  | cons a r ih=>
   intro k hk
   refine .cons ?_ (ih (k+1) fun j v e=>?_)
   ·obtain⟨t,q⟩:=hk 0 a rfl
    exact⟨t,by lia⟩
   ·obtain⟨t,q⟩:=hk (j+1) v (by simp_all)
    grind
 have:=key acc.toList 0 fun j v e=>by
  simp_all
 unfold As
 rw[Pt,<- hs]
 omega
section
variable {X:Cx}
theorem Inv.rng {pins:List (Addr × Obj)}{σ:St}{H:Hp}{s:NF}{lo hi st:Int}{t u v:Tok}{tk:Nat} (I:Inv X pins σ H s) :
  Inv X pins σ (upd H s.heap.objs.size (C9 s.heap.objs.size lo hi st)) { s with heap:=s.heap.push { cls:=.type "range", data:=.fields #[.int lo t,.int hi u,.int st v] },toks:=tk }:=by
 refine I.laid (fun b o e=>k5 _ e) (NC _) ?_
 refine⟨⟨t,u,v,NH _ rfl⟩,⟨_,NH _ rfl⟩,fun h1 h2 ⟨a,b,c,e⟩ k=>⟨a,b,c,k _ e⟩⟩
theorem zJ:cb X (.type "range") (fun vs H Q=>∃i j k,vs=[.int i,.int j,.int k]/\k≠0/\(k.natAbs<1073741824)/\∀p,H p=none->Q (.ref p) (upd H p (C9 p i j k))):=by
 intro pins s σ H xs us Q I r h
 obtain⟨i,j,k,rfl,hk,hb,q⟩:=h
 cases r with
 | cons r1 r=>
  obtain⟨t1,rfl⟩:=r1
  cases r with
  | cons r2 r=>
   obtain⟨t2,rfl⟩:=r2
   cases r with
   | cons r3 r=>
    obtain⟨t3,rfl⟩:=r3
    cases r
    exact call_range_3 hk ⟨.ref _,_,I.rng,rfl,q _ (I.hok.fresh (NC _))⟩ (.inl (PyProof.noPylong_small (by lia)))
structure yD (lo hi st) (n:Nat):Prop where
 sm:OJ.Range.small lo hi st=true
 sz:Pw lo hi st=n
 le:n<=2 ^ 20
theorem Inv.IE {σ:St}{lo hi st:Int} (I:Inv X pins σ H s) (h:H p=some (C9 p lo hi st)):∃t u v,T5 s.heap p lo hi st t u v:=by
 obtain⟨⟨t,u,v,e⟩,_⟩:=I.hok p _ h
 grind
end
section
variable {prog:NW}{w:Oo}{A:Om}{E:NB->NF->Prop}{s:NF}
theorem uK {Q:List NB->NF->Prop}{r:Addr}{a b c:Int}{t u v:Tok}{n:Nat} (hh:A.handled=none) (hr:T5 s.heap r a b c t u v) (ok:yD a b c n)
  (hQ:∀h' tk (acc:Array NB),(∀b o,s.heap.get? b=some o->h'.get? b=some o)->SQ (fun i v=>∃t,v=.int (a+i*c) t) acc n->Q acc.toList { s with heap:=h',toks:=tk }) :
  wpAny (model prog w) A (collect (.ref r)) Q E s:=by
 refine k3 (RQ (Pd F.entry_proto_collect ?_))
 rw[Pu F.plain_proto_collect _]
 refine k3 (Oq (td ⟨R8 F.plain_list_iadd _,Pd F.entry_list_iadd ?_⟩))
 rw[Pu F.plain_list_iadd _]
 have hn:=ok.le
 refine OW (wpAny_extend_range (R:=fun z y=>z=.ok (.ret (.ref s.heap.objs.size))/\∃h' tk acc c',y={ s with heap:=h',toks:=tk }/\(∀b o,s.heap.get? b=some o->h'.get? b=some o) ∧
   h'.get? s.heap.objs.size=some { cls:=.type "list", dict:=none,data:=.seq acc c',slots:=#[] }/\SQ (fun i v=>∃t,v=.int (a+i*c) t) acc n)
  (s:={ s with heap:=s.heap.push { cls:=.type "list", data:=.seq ([]:List NB).toArray } }) hh (k5 _ hr) ok.sm ok.sz (by lia) _ _ 0 (NH _ rfl)
  (fun h' tk acc c' kp e hi=>⟨rfl,h',tk,acc,c',rfl,fun b o q=>kp b o (NS (tv q)) (k5 _ q),e,hi⟩)) (fun fin y h=>?_) (fun e y h=>?_)
 ·have last:∀y,(∃h' tk acc c',y={ s with heap:=h',toks:=tk }/\(∀b o,s.heap.get? b=some o->h'.get? b=some o) ∧
    h'.get? s.heap.objs.size=some { cls:=.type "list", dict:=none,data:=.seq acc c',slots:=#[] }/\SQ (fun i v=>∃t,v=.int (a+i*c) t) acc n)->wpAny (model prog w) A (match Pr s.heap.objs.size with
   | Pr a=>do
    match (← load a).data with
     | Data.seq xs _=>pure xs.toList
     | _=>unsupported "internal:collect"
   | _=>unsupported "internal:collect") Q E y:=by
   rintro y ⟨h',tk,acc,c',rfl,kp,e,hi⟩
   refine k3 (Tz e ?_)
   exact td (hQ h' tk acc kp hi)
  cases fin with
  | done f=>
   obtain⟨e,h⟩:=h
   cases e
   exact last _ h
  | again c'=>exact⟨h.1,Pg h.2 fun r y hr=>by obtain⟨rfl,h⟩:=hr;exact last _ h⟩
 ·exact absurd h.1 (by simp)
theorem zR (hh:A.handled=none) (hr:T5 s.heap r a b c t u v) (ok:yD a b c n)
  (hQ:∀(h':Heap) tk acc , (∀b o,s.heap.get? b=some o->h'.get? b=some o)->SQ (fun i v=>∃t,v=.int (a+i*c) t) acc n->Q (.ref h'.objs.size) { s with heap:=h'.push { cls:=.type "tuple", data:=.seq acc },toks:=tk }) :
  wpAny (model prog w) A (call (.type "tuple") [.ref r]) Q E s:=by
 refine callType_codes (Q₁:=fun obj s₁=>s₁.TypeIs obj "tuple" /\ Q obj s₁) SH (F.typeCall_tuple_1 _) F.entry_object_init ?_ fun obj s₁ h₁=>
  ⟨h₁.1,F.args_object_init_2 obj _,object_init_meets SH.init.lookup SH.made (by decide) prog w A.in1 _ s₁ ⟨h₁.1,rfl,h₁.2⟩⟩
 refine QZ ?_
 show wpAny _ A.in1.in1 (do checkBuiltinCall "tuple.__new__" ⟨[.type "tuple", .ref r],[]⟩;again (.builtin "tuple.__new__" ⟨[.type "tuple", .ref r],[]⟩)) _ _ s
 refine k3 (R9 (F.newCall_tuple_1 _) (td ⟨R8 F.plain_tuple_new _,Pd F.entry_tuple_new ?_⟩))
 rw[Pu F.plain_tuple_new _]
 have hsub:=sub_tuple_self
 have hinit:=init_tuple_lookup
 have hmh:=madeHere_tuple
 have hT:s.TypeIs (.ref r) "range" := ⟨_,hr,rfl⟩
 have hh':A.in1.in1.handled=none:=by simp[hh]
 wp_walk using Rq hT,uK hh' hr ok
 intro h' tk acc kp hi
 show wpAny _ _ (O7 acc.toList.toArray >>= fun v=>ret v) _ _ _
 unfold O7
 have hn:=ok.le
 refine k3 (Oq ?_ (by show acc.toList.toArray.size<=sizeLine;simp only[Array.toArray_toList];rw[hi.1,O5];lia))
 rw[show acc.toList.toArray=acc by simp]
 exact td ⟨⟨_,NH _ rfl,rfl⟩,hQ h' tk acc kp hi⟩
end
section
variable {X:Cx}
theorem oS (hc:X.calm=true):cb X (.type "tuple") (fun vs H Q=>∃p lo hi st n,vs=[.ref p]/\H p=some (C9 p lo hi st)/\yD lo hi st n/\∀l,H l=none->Q (.ref l) (upd H l (.tup ((As lo st n).map V.int)))):=by
 intro pins s σ H xs us Q I r h
 obtain⟨p,lo,hi,st,n,rfl,hp,ok,q⟩:=h
 obtain⟨u,rfl,rx⟩:=vals1 r
 cases rx
 obtain⟨t,u,v,hr⟩:=I.IE hp
 have hn:=ok.le
 refine zR (I.ok.hd hc) hr ok fun h' tk acc kp hi=>?_
 have hv:=wx hi
 have I1:Inv X pins σ H { s with heap:=h',toks:=tk }:=I.kept kp
 refine⟨.ref h'.objs.size,_,I1.laid (o:=.tup _) (fun b ob q=>k5 _ q) (NC _) ⟨?_,acc.toList,hv,by simpa using mR.new h' acc⟩,rfl,q _ (I1.hok.fresh (NC _))⟩
 rw[NJ,uy,O5];lia
theorem Vals.get' {xs:List V}{us:List NB}{i:Nat}{u:NB} (r:Vals xs us) (h:us[i]?=some u):∃x,xs[i]?=some x/\RelV x u:=by
 have hl:=r.length
 have hi:i<xs.length:=by rw[hl];exact(Og.mp h).1
 obtain⟨u',e1,e2⟩:=r.get (NM hi)
 rw[h] at e1;cases e1
 exact⟨_,NM hi,e2⟩
end
theorem Ar (h:ns.Nodup):(unl ns).length=ns.length:=by
 have key:∀(l acc:List Int),(acc++l).Nodup->l.foldl TM acc=acc++l:=by
  intro l
  induction l with
  | nil=>simp
  | cons a r ih=>
   intro acc hn
   have h1:a∉acc:=by
    grind
   have e:TM acc a=acc++[a]:=by
    unfold TM
    simp_all
   simp_all
 have e:(ND ns.length).map (fun i=>ns.getD i 0)=ns:=by
  apply QM
  ·simp
  simp_all
 unfold unl firstMet
 simp_all
theorem Inv.HV {σ:St} (I:Inv X (pins++[(C,o)]) σ H s) (cC:∀x c,X.env.cells.lookup x=some c->c≠C) (hC:X.aE.heap.objs.size<=C) (pC:∀p∈X.pn++pins,p.1≠C) (hs:QA C s.heap h'):Inv X pins σ H { s with heap:=h' }:=by
 have kb:∀b u,b≠C->s.heap.get? b=some u->h'.get? b=some u:=fun b u hb z=>hs.extBut b u hb z
 obtain⟨q0,q1,q2,q3,q4⟩:=I.pin (C,o) (NI _ (NI _ (NY.mpr rfl)))
 have J:Inv X pins σ H s:=I.kX fun p hp=>I.pin p (NI _ (QH _ hp))
 refine J.vS (s':={ s with heap:=h' }) (ch:=[C]) rfl ⟨fun b u z n a c=>kb b u (fun e=>c (by simp_all)) z,fun b u z n a c=>⟨u.slots,kb b _ (fun e=>c (by simp_all)) z⟩,fun b u z n c=>n,fun b u z c=>⟨u,kb b u (fun e=>c (by simp_all)) z⟩,fun b xs z=>z,fun b ob u z=>z,fun b ps z=>⟨#[],by simp_all⟩⟩ (J.hok.sameBut q1 kb) J.bare fun b hb=>?_
 grind
section
variable {prog:NW}{w:Oo}{A:Om}{E:NB->NF->Prop}{s:NF}
theorem xj (hi:s.heap.IsTupleIter it t i) (ht:s.heap.IsTuple t its) (hx:its[i]?=some x) (hQ:∀h',h'.IsTupleIter it t (i+1)->QA it s.heap h'->Q x { s with heap:=h' }) :
  wpAny (model prog w) A (OJ.SmallTypes.nextOf (.ref it)) Q E s:=by
 obtain⟨oi,h1,h2,h3⟩:=id hi
 obtain⟨ot,k1,_,nt,k2⟩:=ht
 refine k3 (Pc hi.typeIs PV (O0 PV hi.typeIs F.entry_tuple_iterator_next ?_ (F.args_tuple_iterator_next_1 _)))
 refine k3 (m:=field (.ref it) 0) (Rc h1 h3 rfl ?_)
 show wpAny _ _ (if (Pr t == Qq)=true then _ else field (.ref it) 1 >>= _) _ _ s
 refine k3 (Rc h1 h3 rfl (k3 (RR k1 k2 ?_)))
 simp only[Int.toNat_natCast,hx]
 exact k3 (wpAny_setField h1 h3 (by simp) (td ⟨x,rfl,td (hQ _ ⟨_,Rr _ h1 (Obj.isFreed_of_fields (Obj.data_mapFields h3 _)),(Obj.cls_mapFields ..).trans h2,by rw[Obj.data_mapFields h3];rfl⟩ (Qk ..))⟩))
theorem qR (hh:A.handled=none) (hi:s.heap.IsTupleIter it t i) (ht:s.heap.IsTuple t its) (hx:its[i]?=none)
  (hE:∀h' e,Heap.ExtBut it s.heap h'->(∃o,h'.get? e=some o/\o.cls=.type "StopIteration")->E (.ref e) { s with heap:=h' }):wpAny (model prog w) A (OJ.SmallTypes.nextOf (.ref it)) Q E s:=by
 obtain⟨oi,h1,h2,h3⟩:=id hi
 obtain⟨ot,k1,_,nt,k2⟩:=ht
 refine k3 (Pc hi.typeIs PV (O0 PV hi.typeIs F.entry_tuple_iterator_next ?_ (F.args_tuple_iterator_next_1 _)))
 refine k3 (m:=field (.ref it) 0) (Rc h1 h3 rfl ?_)
 show wpAny _ _ (if (Pr t == Qq)=true then _ else field (.ref it) 1 >>= _) _ _ s
 refine k3 (Rc h1 h3 rfl (k3 (RR k1 k2 ?_)))
 simp only[Int.toNat_natCast,hx]
 refine k3 (Td (k3 (wpAny_setField h1 h3 (by simp) (k3 ?_))))
 refine k3 (Oq (k3 (R9 (by rfl) (Oq ?_ (by size_fits)))) (by size_fits))
 refine k3 (wpAny_handled ?_)
 rw[show A.in1.handled=none from hh]
 exact k3 (td (wpAny_throw (hE _ _ (((Qk ..).extBut.push _).push _) ⟨_,NH _ rfl,rfl⟩)))
end
theorem Draws.tup {prog:NW}{w:Oo}{A:Om} (hh:A.handled=none) (it t:Addr) (hne:t≠it) (its:Array NB):Draws prog w A it [it,t] its.size (fun i v=>its[i]?=some v) (fun i h=>h.IsTupleIter it t i/\h.IsTuple t its) where
 live:=fun _ _ z=>let ⟨o,ho,_⟩:=z.1;⟨o,ho⟩
 frame:=fun _ _ _ z hk=>⟨z.1.at fun o e=>hk it (by simp) o e,z.2.at fun o e=>hk t (by simp) o e⟩
 item:=fun i s Q E hi z hQ=>xj z.1 z.2 (x:=its[i]) (by simp[hi]) fun h' a b=>hQ _ h' s.toks (by simp[hi]) ⟨a,z.2.extBut b.extBut hne⟩ b
 done:=fun s Q E z hE=>qR hh z.1 z.2 (by simp) hE
section
open AutoSeq1 (wpAny_loadPart')
theorem xI (t) (its) (n) (dct) (sl) :
  Meets (OJ.«enumerate.__new__» ⟨[.type "enumerate", .ref t],[]⟩) (fun _ R s=>s.heap.get? t=some { cls:=.type "tuple", dict:=dct,data:=.seq its n,slots:=sl } ∧
   R (.ok (.ret (.ref (s.heap.push { cls:=.type "tuple_iterator", data:=.fields #[.ref t,.int 0 0] }).objs.size))) { s with heap:=(s.heap.push { cls:=.type "tuple_iterator", data:=.fields #[.ref t,.int 0 0] }).push { cls:=.type "enumerate", data:=.fields #[.none,.bool false,.ref s.heap.objs.size,rawInt 0,.none,.none] } }):=
 .of_wp fun prog w A R s z=>by
  obtain⟨hp,gs,dr,tk,os⟩:=s;obtain⟨ht,z⟩:=z
  have su:=sub_enumerate
  have hT:Heap.IsTuple (NF.heap ⟨hp,gs,dr,tk,os⟩) t its:=⟨_,ht,rfl,n,rfl⟩
  wp_walk using Sn ht
  refine wpAny_stack_any fun st=>td ?_
  split
  ·rename_i c _ _ _ _ _
   cases (c == QC "enumerate")<;>(wp_walk using Sn ht,Qw hT;exact⟨_,rfl,z⟩)
  ·(wp_walk using Sn ht,Qw hT);exact⟨_,rfl,z⟩
end
section
variable {prog:NW}{w:Oo}{A:Om}{E:NB->NF->Prop}{s:NF}
theorem JM (hT:s.heap.IsTuple t its)
  (q:∀h',TY h' (s.heap.objs.size+1) s.heap.objs.size 0 .none->h'.IsTupleIter s.heap.objs.size t 0->h'.objs.size=s.heap.objs.size+2->(∀b o,s.heap.get? b=some o->h'.get? b=some o)->Q (.ref (s.heap.objs.size+1)) { s with heap:=h' }) :
  wpAny (model prog w) A (call (.type "enumerate") [.ref t]) Q E s:=by
 obtain⟨⟨c,dct,dt,sl⟩,ht,hc,n,hd⟩:=hT
 subst hc hd
 refine callType_new F.called_enumerate (by decide) (F.typeCall_enumerate_1 _) (F.newCall_enumerate_1 _) (fun obj=>F.args_object_init_2 obj _) F.entry_enumerate_new (xI t its n dct sl) ⟨ht,?_⟩
 have hz:(s.heap.push { cls:=.type "tuple_iterator", data:=.fields #[.ref t,.int 0 0] }).objs.size=s.heap.objs.size+1:=Rl ..
 rw[hz]
 have he:TY ((s.heap.push { cls:=.type "tuple_iterator", data:=.fields #[.ref t,.int 0 0] }).push { cls:=.type "enumerate", data:=.fields #[.none,.bool false,.ref s.heap.objs.size,rawInt 0,.none,.none] }) (s.heap.objs.size+1) s.heap.objs.size 0 .none:=by
  have y:=NH (s.heap.push { cls:=.type "tuple_iterator", data:=.fields #[.ref t,.int 0 0] }) (o:={ cls:=.type "enumerate", data:=.fields #[.none,.bool false,.ref s.heap.objs.size,rawInt 0,.none,.none] }) rfl
  grind
 exact⟨⟨_,he,rfl⟩,q _ he ⟨_,k5 _ (NH _ rfl),rfl,rfl⟩ (by simp) fun b o x=>k5 _ (k5 _ x)⟩
end
theorem Inv.yielded {X:Cx}{pins:List (Addr × Obj)}{σ:St}{H:Hp}{s:NF}{fp:List Addr}{T:Addr}{o:HO}{h':Heap}{t':Nat} (I:Inv X pins σ H s) (hf:∀b∈fp,m7 X pins H b) (k:∀b u,b∉fp->s.heap.get? b=some u->h'.get? b=some u)
  (hT:s.heap.objs.size<=T) (new:c6 X.prog X.w (upd H T o) h' T o):Inv X pins σ (upd H T o) { s with heap:=h',toks:=t' }:=by
 have nT:∀b u,s.heap.get? b=some u->b≠T:=fun b u e z=>absurd (tv e) (by rw[z];exact Qb.mpr hT)
 have nH:∀b u,H b=some u->b≠T:=fun b u e z=>absurd (I.hok.lt e) (by rw[z];exact Qb.mpr hT)
 have nf:∀b u,H b=some u->b∉fp:=fun b u e z=>by rw[(hf b z).1] at e;cases e
 refine I.vS (s':={ s with heap:=h',toks:=t' }) rfl ⟨fun b u e n _ c=>k b u c e,fun b u e n _ c=>⟨u.slots,k b u c e⟩,fun b u e n c=>by rw[aN (nT b u e)];exact n,fun b u e c=>⟨u,k b u c e⟩,fun b xs e=>by rw[aN (nH b _ e)];exact e,fun b ob u e=>by rw[aN (nH b _ e)];exact e,fun b ps e=>⟨#[],by rw[aN (nH b _ e),e];simp⟩⟩ (fun b u e=>?_) I.bare (fun b hb=>?_)
 ·by_cases hb:b=T
  ·subst hb
   rw[bH] at e
   cases e
   exact new
  ·rw[aN hb] at e
   refine(I.hok b u e).lU (fun c v hc q=>k c v ?_ q) (fun c q=>by rw[aN (nH c _ q)];exact q) fun c xs q=>by rw[aN (nH c _ q)];exact q
   rcases hc with z | z
   ·rw[z];exact nf b u e
   ·exact nf c _ z
 ·obtain⟨_,g1,_,g3,g4,g5⟩:=hf b hb
  exact⟨g3,g1,g4,g5⟩
theorem Inv.yJ {σ:St}{fp:List Addr} (I:Inv X pins σ H s) (hf:∀b∈fp,m7 X pins H b) (k:∀b u,b∉fp->s.heap.get? b=some u->h'.get? b=some u):Inv X pins σ H { s with heap:=h',toks:=t' }:=by
 have nf:∀b u,H b=some u->b∉fp:=fun b u e z=>by rw[(hf b z).1] at e;cases e
 refine I.vS (s':={ s with heap:=h',toks:=t' }) rfl ⟨fun b u e n _ c=>k b u c e,fun b u e n _ c=>⟨u.slots,k b u c e⟩,fun b u e n c=>n,fun b u e c=>⟨u,k b u c e⟩,fun b xs e=>e,fun b ob u e=>e,fun b ps e=>⟨#[],by grind⟩⟩ (fun b u e=>?_) I.bare (fun b hb=>?_)
 ·refine(I.hok b u e).lU (fun c v hc q=>k c v ?_ q) (fun c q=>q) fun c xs q=>q
  grind
 ·obtain⟨_,g1,_,g3,g4,g5⟩:=hf b hb
  grind
noncomputable def Iel (K:gV) (a:Addr):It:=
 ⟨fun i H=>∃xs x,SqL K H a xs/\xs[i]?=some x,fun i H x H'=>∃p v,x=.ref p/\H p=none/\(∀xs,SqL K H a xs->xs[i]?=some v)/\H'=upd H p (.tup [.int i,v]),fun i H=>∃xs,SqL K H a xs/\xs.length<=i⟩
noncomputable def Iet (K:gV) (a:Addr):It:=
 ⟨fun i H=>∃xs x,SqT K H a xs/\xs[i]?=some x,fun i H x H'=>∃p v,x=.ref p/\H p=none/\(∀xs,SqT K H a xs->xs[i]?=some v)/\H'=upd H p (.tup [.int i,v]),fun i H=>∃xs,SqT K H a xs/\xs.length<=i⟩
theorem o5 {St:Nat->Heap->Prop} (D:Draws prog w A.in1 it fp n P St) (e) (hei:e≠it) (hef:e∉fp) (i) (s:NF) (Q) (E) (hi:i<n)
  (hst:(∃old,TY s.heap e it i old)/\St i s.heap)
  (hQ:∀T vals h' tk,(∃t x,P i x/\vals = #[.int i t,x])->s.heap.objs.size<=T->mR h' T vals->((∃x,IsEnumOut h' e it ((i:Int)+1) x T)/\St (i+1) h'/\T≠e/\T≠it)->(∀b o,b∉[e,it]->s.heap.get? b=some o->h'.get? b=some o)->Q (some (.ref T)) { s with heap:=h',toks:=tk }) :
  wpAny (model prog w) A (pyNext (.ref e)) Q E s:=by
 obtain⟨⟨old,he⟩,hs⟩:=hst
 refine wpAny_pyNext_enum_itemD D he hs hi hei hef fun x h1 tk hP ho hs1 hT _ hk=>?_
 refine hQ s.heap.objs.size #[.int i tk,x] h1 (tk+1) ⟨tk,x,hP,rfl⟩ (NC _) ⟨_,hT,⟨rfl,_,rfl⟩,rfl⟩ ⟨⟨_,ho⟩,hs1,Qd (tv he),?_⟩ fun b o hb y=>hk b o (fun z=>hb (by simp[z])) (fun z=>hb (by simp[z])) y
 obtain⟨_,y⟩:=D.live _ _ hs
 exact Qd (tv y)
theorem AR {h:Heap}{e it:Addr}{i:Int}{old:NB} (z:TY h e it i old):∃o,h.get? e=some o/\∀v,o.data≠.cell v:=⟨_,z,fun v q=>nomatch q⟩
theorem wW {P:NW}{w:Oo}{K:gV}{elts:List Expr}{k:Nat}{pos:Pos}{a it e:Addr} (hei:e≠it):Turn P w K (.Tuple elts k pos) (Iel K a) [e,it] e (fun i h=>(∃old,TY h e it i old)/\h.IsListIter it a i) where
 mem:=by simp
 obj:=fun i h z b hb=>by
  obtain⟨⟨old,z1⟩,z2⟩:=z
  rcases NQ.mp hb with rfl | hb
  ·exact AR z1
  ·rw[NY.mp hb]
   obtain⟨o,q,_,d⟩:=z2
   exact⟨o,q,fun v y=>by rw[d] at y;cases y⟩
 keep:=fun i h h' z kk=>⟨let ⟨old,z1⟩:=z.1;⟨old,kk e (by simp) _ z1⟩,z.2.at fun o q=>kk it (by simp) o q⟩
 item:=by
  intro X hP hw hK hc i pins s σ H E I hf st hg
  subst hP hw hK
  obtain⟨xs,x,hq,hx⟩:=hg
  obtain⟨its,rv,p,hz⟩:=I.list hq
  obtain⟨u,hu,ru⟩:=rv.get hx
  have hl:=rv.length
  have plt:a<s.heap.objs.size:=by obtain⟨o,q,_⟩:=p.isList;exact tv q
  have hai:a≠it/\a≠e:=by
   obtain⟨oa,qa,ca,_⟩:=p.isList
   obtain⟨⟨old,z1⟩,oi,qi,ci,_⟩:=st
   exact⟨(fun q=>by rw[q,qi] at qa;cases qa;rw[ci] at ca;injection ca with y;exact absurd y (by decide)),(fun q=>by rw[q,z1] at qa;cases qa;injection ca with y;exact absurd y (by decide))⟩
  have DD:=(Draws.list (prog:=X.prog) (w:=X.w) (A:=X.A.in1) (I.ok.hd hc) it a hai.1 its.toArray)
  have hef0:e∉[it,a]:=by simp;exact⟨hei,fun q=>hai.2 q.symm⟩
  have W:=WalksT.enumerateD (prog:=X.prog) (w:=X.w) (A:=X.A) DD e hei hef0 (by simp)
  refine o5 DD e hei hef0 i s _ _ (by rw[N5,<- hl];exact(Og.mp hx).1) ⟨st.1,st.2,p.isList⟩ fun T vals h1 tk hv hT ht hm k1=>?_
  obtain⟨t,v,hv1,hv2⟩:=hv
  have ev:v=u:=by
   have:its[i]?=some v:=by simpa using hv1
   rw[hu] at this;exact(Oz this).symm
  subst ev
  refine⟨.ref T,rfl,W.go elts k pos i T { s with heap:=h1,toks:=tk } _ _ hm fun h2 st2 k2=>?_⟩
  have kk:∀b o,b∉[e,it]->s.heap.get? b=some o->h2.get? b=some o:=fun b o hb q=>k2 b o hb (k1 b o hb q)
  have hT2:mR h2 T vals:=by
   obtain⟨o,q,c⟩:=ht
   exact⟨o,k2 T o (fun z=>W.apart _ _ _ hm z) q,c⟩
  have hn:H T=none:=I.hok.fresh hT
  have nTf:∀b∈[e,it],b≠T:=fun b hb z=>by
   have hlt:b<s.heap.objs.size:=by
    rcases NQ.mp hb with rfl | hb
    ·obtain⟨old,z1⟩:=st.1;exact tv z1
    ·rw[NY.mp hb];obtain⟨o,q,_⟩:=st.2;exact tv q
   rw[z] at hlt;exact absurd hlt (Qb.mpr hT)
  refine⟨.ref T,upd H T (.tup [.int i,x]),I.yielded (t':=tk) hf kk hT ⟨by show 2<=sizeLine;decide,[.int i t,v],.cons ⟨t,rfl⟩ (.cons ru .nil),?_⟩,rfl,⟨T,x,rfl,hn,fun ys hy=>by rw[I.pM hy hq];exact hx,rfl⟩,⟨st2.1,st2.2.1⟩,fun b hb=>by rw[aN (nTf b hb)];exact(hf b hb).1⟩
  rw[hv2] at hT2;exact hT2
 done:=by
  intro X hP hw hK hc i pins s σ H E I hf st hg
  subst hP hw hK
  obtain⟨xs,hq,hx⟩:=hg
  obtain⟨its,rv,p,hz⟩:=I.list hq
  obtain⟨⟨old,z1⟩,z2⟩:=st
  have hl:=rv.length
  exact wpAny_pyNext_enum_end (I.ok.hd hc) z1 z2 p.isList (Q7 (by rw[N5];lia)) fun h' eb=>⟨rfl,I.yJ (t':=s.toks) hf fun b u hb q=>eb b u (fun z=>hb (by simp[z])) q⟩
 self:=fun A i s Q E z q=>by
  obtain⟨⟨old,z1⟩,z2⟩:=z
  exact Rh z1 q
theorem xn {P:NW}{w:Oo}{K:gV}{elts:List Expr}{k:Nat}{pos:Pos}{a it e:Addr} (hei:e≠it):Turn P w K (.Tuple elts k pos) (Iet K a) [e,it] e (fun i h=>(∃old,TY h e it i old)/\h.IsTupleIter it a i) where
 mem:=by simp
 obj:=fun i h z b hb=>by
  obtain⟨⟨old,z1⟩,z2⟩:=z
  rcases NQ.mp hb with rfl | hb
  ·simp_all
  ·rw[NY.mp hb]
   obtain⟨o,q,_,d⟩:=z2
   simp_all
 keep:=fun i h h' z kk=>⟨let ⟨old,z1⟩:=z.1;⟨old,kk e (by simp) _ z1⟩,z.2.at fun o q=>kk it (by simp) o q⟩
 item:=by
  intro X hP hw hK hc i pins s σ H E I hf st hg
  subst hP hw hK
  obtain⟨xs,x,hq,hx⟩:=hg
  obtain⟨its,rv,p,hz⟩:=I.tuple hq
  obtain⟨u,hu,ru⟩:=rv.get hx
  have hl:=rv.length
  have plt:a<s.heap.objs.size:=by obtain⟨o,q,_⟩:=(show s.heap.IsTuple a its.toArray from p);exact tv q
  have hai:a≠it/\a≠e:=by
   obtain⟨oa,qa,ca,_⟩:=(show s.heap.IsTuple a its.toArray from p)
   obtain⟨⟨old,z1⟩,oi,qi,ci,_⟩:=st
   grind
  have DD:=(Draws.tup (prog:=X.prog) (w:=X.w) (A:=X.A.in1) (I.ok.hd hc) it a hai.1 its.toArray)
  have hef0:e∉[it,a]:=by grind
  have W:=WalksT.enumerateD (prog:=X.prog) (w:=X.w) (A:=X.A) DD e hei hef0 (by simp)
  refine o5 DD e hei hef0 i s _ _ (by grind) ⟨st.1,st.2,(show s.heap.IsTuple a its.toArray from p)⟩ fun T vals h1 tk hv hT ht hm k1=>?_
  obtain⟨t,v,hv1,hv2⟩:=hv
  have ev:v=u:=by
   simp_all
  subst ev
  refine⟨.ref T,rfl,W.go elts k pos i T { s with heap:=h1,toks:=tk } _ _ hm fun h2 st2 k2=>?_⟩
  have kk:∀b o,b∉[e,it]->s.heap.get? b=some o->h2.get? b=some o:=fun b o hb q=>k2 b o hb (k1 b o hb q)
  have hT2:mR h2 T vals:=by
   obtain⟨o,q,c⟩:=ht
   exact⟨o,k2 T o (fun z=>W.apart _ _ _ hm z) q,c⟩
  have hn:H T=none:=I.hok.fresh hT
  have nTf:∀b∈[e,it],b≠T:=fun b hb z=>by
   simp_all
  refine⟨.ref T,upd H T (.tup [.int i,x]),I.yielded (t':=tk) hf kk hT ⟨by show 2<=sizeLine;decide,[.int i t,v],.cons ⟨t,rfl⟩ (.cons ru .nil),?_⟩,rfl,⟨T,x,rfl,hn,fun ys hy=>by rw[I.lX hy hq];exact hx,rfl⟩,⟨st2.1,st2.2.1⟩,fun b hb=>by rw[aN (nTf b hb)];exact(hf b hb).1⟩
  simp_all
 done:=by
  intro X hP hw hK hc i pins s σ H E I hf st hg
  subst hP hw hK
  obtain⟨xs,hq,hx⟩:=hg
  obtain⟨its,rv,p,hz⟩:=I.tuple hq
  obtain⟨⟨old,z1⟩,z2⟩:=st
  have hl:=rv.length
  have pt:s.heap.IsTuple a its.toArray:=p
  have DD:Draws X.prog X.w X.A.in1 it [it,a] i (fun _ _=>True) (fun j h=>j=i/\h.IsTupleIter it a j/\h.IsTuple a its.toArray):={
   live:=fun _ _ z=>let ⟨o,ho,_⟩:=z.2.1;⟨o,ho⟩
   frame:=fun _ _ _ z hk=>⟨z.1,z.2.1.at fun o e=>hk it (by simp) o e,z.2.2.at fun o e=>hk a (by simp) o e⟩
   item:=fun j s Q E hj z hQ=>absurd z.1 (NS hj)
   done:=fun s Q E z hE=>qR (I.ok.hd hc) z.2.1 z.2.2 (Q7 (by simp_all)) hE }
  exact wpAny_pyNext_enum_endD DD z1 ⟨rfl,z2,pt⟩ fun h' eb=>⟨rfl,I.yJ (t':=s.toks) hf fun b u hb q=>eb b u (fun z=>hb (by simp[z])) q⟩
 self:=fun A i s Q E z q=>by
  obtain⟨⟨old,z1⟩,z2⟩:=z
  exact Rh z1 q
noncomputable def IP (K:gV) (tl:TE):TI:=fun σ H R=>tl σ H fun x H1=>∃a,x=.ref a/\(((∃xs,SqL K H1 a xs)/\R (Iel K a) H1)\/((∃xs,SqT K H1 a xs)/\R (Iet K a) H1))
theorem Eo {X:Cx}{elts:List Expr}{kt:Nat}{tp p pos:Pos}{l:Expr}{tl:TE} (hg:Gl X "enumerate") (hm:X.mg "enumerate" = none) (hl:PE X l tl) (hs:starEach [l] X.env=[(false,eval l X.env)]:=by rfl) :
  PI X (.Tuple elts kt tp) (.Call (.Name "enumerate" p) [l] [] pos) (IP X.K tl):=by
 intro pins s σ H R I h
 have h':FV tl Ki σ H (fun vs H1=>match vs with
  | [x]=>∃a,x=.ref a/\(((∃xs,SqL X.K H1 a xs)/\R (Iel X.K a) H1)\/((∃xs,SqT X.K H1 a xs)/\R (Iet X.K a) H1))
  | _=>False):=h
 refine Call_ (lJ I hg hm PyProof.Rows.boot_enumerate (PF (thn (jG hl nK hs pos pins s σ H _ I h') fun us s1 ⟨vs,H1,I1,r1,q1⟩=>?_) hs rfl))
 cases r1 with
 | nil=>simp_all
 | cons r rr=>
  cases rr with
  | cons _ _=>simp_all
  | nil=>
   obtain⟨a,rfl,q⟩:=q1
   cases r
   have fp:∀{h':Heap},∀b∈[s1.heap.objs.size+1,s1.heap.objs.size],m7 X pins H1 b:=fun{h'} b hb=>by
    have hb':s1.heap.objs.size<=b:=by
     grind
    exact I1.Ey hb' (I1.hok.fresh hb')
   rcases q with⟨⟨xs,hq⟩,q⟩ | ⟨⟨xs,hq⟩,q⟩
   ·obtain⟨its,rv,pl,hz⟩:=I1.list hq
    refine call_enumerate_list pl.isList fun h2 z1 z2 hsz kp=>Rh (s:={ s1 with heap:=h2 }) z1 ?_
    exact⟨s1.heap.objs.size+1,[s1.heap.objs.size+1,s1.heap.objs.size],_,_,H1,rfl,I1.kept kp,wW (Nat.succ_ne_self _),⟨⟨_,z1⟩,z2⟩,fp (h':=h2),q⟩
   ·obtain⟨its,rv,pl,hz⟩:=I1.tuple hq
    refine JM (show s1.heap.IsTuple a its.toArray from pl) fun h2 z1 z2 hsz kp=>Rh (s:={ s1 with heap:=h2 }) z1 ?_
    exact⟨s1.heap.objs.size+1,[s1.heap.objs.size+1,s1.heap.objs.size],_,_,H1,rfl,I1.kept kp,xn (Nat.succ_ne_self _),⟨⟨_,z1⟩,z2⟩,fp (h':=h2),q⟩
noncomputable def qC (nt:Nat) (ix:List Nat) (σ:St):St:=N1 nt none++ix.map fun i=>(σ[i]?).join
noncomputable def iT (nt:Nat) (ix:List Nat) (σ σ':St):Prop:=∃ts:St,ts.length=nt/\σ'=ts++ix.map fun i=>(σ[i]?).join
noncomputable abbrev HE (J:It) (nt:Nat) (ix:List Nat) (σ:St) (tg:TG) (tt:TT) (te:TE) (acc:Addr) (H1:Hp) (Q:VK):Prop:=
 ∃W:Nat->Nat->List V->Hp->Prop,(∃m,W 0 m [] (upd H1 acc (.lst [])))/\∀i m ys H,W i m ys H →
  (J.stop i H/\Q (.ref acc) H)\/(J.go i H/\∀σ0 x H',iT nt ix σ σ0->J.yld i H x H'->tg x σ0 H' fun σ2 Hn=>iT nt ix σ σ2/\tt σ2 Hn fun b H2=>if b=true then te σ2 H2 fun y H3=>
    H3 acc=some (.lst ys)/\ys.length<sizeLine/\∃m',m'<m/\W (i+1) m' (ys++[y]) (upd H3 acc (.lst (ys++[y])))
   else ∃m',m'<m/\W (i+1) m' ys H2)
noncomputable def um (wi:TI) (nt:Nat) (ix:List Nat) (tg:TG) (tt:TT) (te:TE):TE:=fun σ H Q=>wi σ H fun J H1=>∀acc,H1 acc=none->HE J nt ix σ tg tt te acc H1 Q
theorem rA {X:Cx}{use:Option (NB->Sem Unit)}{Q2:NB->NF->Prop}{pins:List (Addr × Obj)}{s:NF}{σ:St}{H:Hp}{Q:VK}{elt iter tg:Expr}{tn':List Str}{tgr:TG}{ifs:List Expr}{scope osc:Ru}{pos:Pos}{wi:TI}{tt:TT}{te:TE} (ix:List Nat) (N':List Str)
  (hxe:X.xe=fun _ _=>False) (hc:X.calm=true) (ho:X.env.scope=osc) (hN:N'=tn'++ix.map fun i=>(X.N[i]?).getD ("" : Str)) (hnd:N'.Nodup)
  (hall:(∀y∈scope.names,y.2=.free->osc.names.lookup y.1=some .cell)/\(∀y∈scope.names,y.2≠.cell)/\scope.kind=.function/\(∀y∈scope.names,y.2=.local->scope.names.lookup y.1=some .local)/\(∀y∈N'.drop tn'.length,scope.names.lookup y=some .free))
  (hi:PI X tg iter wi) (hg:∀cl C aE aG fp,PG (bO X scope cl C aE aG fp N') tg tgr)
  (ht:∀cl C aE aG fp,PTs (bO X scope cl C aE aG fp N') ifs tt)
  (he:∀cl C aE aG fp,PE (bO X scope cl C aE aG fp N') elt te)
  (hs:∀x,foldedSetIterable iter X.env x=pure x) (I:Inv X pins σ H s) (h:um wi tn'.length ix tgr tt te σ H Q)
  (hfin:∀(acc C:Addr) (H5:Hp) (s5:NF) (o:Obj),Inv X (pins++[(C,o)]) σ H5 s5->(∀x c,X.env.cells.lookup x=some c->c≠C)->X.aE.heap.objs.size<=C->(∀p∈X.pn++pins,p.1≠C)->(∃m,∀h':Heap,h'.get? C=some o->h'.Ns C m)->Q (.ref acc) H5->compPost (model X.prog X.w) X.A X.xe use Q2 (.ref acc) C (.ok .next) s5) :
  wpAny (model X.prog X.w) X.A (comprehension (.ListComp elt [⟨tg,iter,ifs,0⟩] scope pos) scope X.env (firstIterPos [⟨tg,iter,ifs,0⟩] pos) (newList []) false (eval iter X.env) use) Q2 X.xe s:=by
 obtain⟨hfr,hcell,hkind,hnames,hcap⟩:=hall
 subst ho
 have outc:=fun y hy q=>hfr y hy q
 obtain⟨cl,hclos,hcl1,hcl2⟩:=j7 fun y hy q=>I.ok.has y.1 (.inl (outc y hy q))
 refine wpAny_comprehension_free rfl hs hclos hkind hnames (thn (hi pins s σ H _ I h) fun v s1 h1=>thn h1 fun itv s2 h2=>?_)
 obtain⟨it,fp,tn,J,H2,e,I2,T,st2,f2,rest⟩:=h2
 subst e
 have hf2:=I2.hok.fresh (NC _)
 obtain⟨W,⟨m0,w0⟩,turn⟩:=rest s2.heap.objs.size hf2
 refine Oq ?_
 have I3:=I2.D7 (t':=s2.toks) .nil (OU _)
 have keep3:∀b o,s2.heap.get? b=some o->(s2.heap.push { cls:=.type "list", dict:=none,data:=.seq ([]:List NB).toArray }).get? b=some o:=fun b o q=>k5 _ q
 have fp3:=T.obj _ _ st2
 have st3:=T.keep _ _ _ st2 fun b _ o q=>keep3 b o q
 have fpn:∀b∈fp,(upd H2 s2.heap.objs.size (HO.lst [])) b=none:=fun b hb=>by
  obtain⟨o,q,_⟩:=fp3 b hb
  rw[aN (NS (tv q))]
  exact(f2 b hb).1
 revert I3 keep3 st3 fpn w0
 generalize hS3:({ s2 with heap:=s2.heap.push { cls:=.type "list", dict:=none,data:=.seq ([]:List NB).toArray } }:NF)=s3
 generalize hH3:upd H2 s2.heap.objs.size (HO.lst [])=H3
 intro w0 I3 keep3 st3 fpn
 generalize s2.heap.objs.size=acc at *
 have e3:s2.heap.push { cls:=.type "list", dict:=none,data:=.seq ([]:List NB).toArray }=s3.heap:=by rw[<- hS3]
 have keep3':∀b o,s2.heap.get? b=some o->s3.heap.get? b=some o:=fun b o q=>by rw[<- e3];exact keep3 b o q
 have st3':tn 0 s3.heap:=by rw[<- e3];exact st3
 refine Rx hcell (by intro y hy;simp at hy) (fun h₁ hns₁ hsb₁=>?_) hkind
 have hC:s3.heap.objs.size=s3.heap.objs.size:=rfl
 have keep4:∀b o,s3.heap.get? b=some o->h₁.get? b=some o:=fun b o q=>hsb₁.extBut b o (NS (tv q)) (k5 _ q)
 have fpC:∀b∈fp,b≠s3.heap.objs.size:=fun b hb=>by
  obtain⟨o,q,_⟩:=fp3 b hb
  exact NS (tv (keep3' b o q))
 -- the block's context
 generalize hX':bO X scope cl s3.heap.objs.size s3 H3 fp N'=X'
 have hXp:X'.prog=X.prog:=by rw[<- hX'];rfl
 have hXw:X'.w=X.w:=by rw[<- hX'];rfl
 have hXK:X'.K=X.K:=by rw[<- hX'];rfl
 have hXA:X'.A=X.A:=by rw[<- hX'];rfl
 have hXe:X'.env=compEnvC scope cl s3.heap.objs.size X.env:=by rw[<- hX'];rfl
 have hXc:X'.calm=true:=by rw[<- hX'];exact hc
 have hXx:X'.xe=fun _ _=>False:=by rw[<- hX'];exact hxe
 have hXf:X'.fs=frs X.stack:=by rw[<- hX'];rfl
 have hXex:X'.ex=fp:=by rw[<- hX'];rfl
 have hXN:X'.N=N':=by rw[<- hX'];rfl
 have hXs:X'.aE=s3:=by rw[<- hX'];rfl
 have hXH:X'.aG=H3:=by rw[<- hX'];rfl
 have hXpn:X'.pn=[]:=by rw[<- hX'];rfl
 have okX:X'.Ok:=by
  rw[<- hX']
  refine⟨I3.ok.mod,hkind,I3.ok.glob,I3.ok.blt,NC _,fun a b c p q=>I3.ok.inj a b c (hcl1 a c p) (hcl1 b c q),fun y hy=>?_,fun _ _ z=>(by cases z),I3.ok.hd,I3.ok.frames,.inl rfl,fun b hb=>⟨fpC b hb,fun y c p=>(f2 b hb).2.2.2.2.1 y c (hcl1 y c p)⟩,
   I3.bs,N4 I3.ok.bsz I3.sz,fun b o p hb=>?_,fun b hb z=>?_,I3.stack,I3.nJ⟩
  ·have hy':(relabel scope X.env).names.lookup y=some .cell\/(relabel scope X.env).names.lookup y=some .free:=hy
   have free:scope.names.lookup y=some .free->∃c,cl.lookup y=some c:=fun q=>hcl2 y (lookup_mem q)
   rcases hy' with q | q
   ·rcases fB q with z | ⟨z,_⟩
    ·exact absurd rfl (hcell _ (lookup_mem z))
    ·exact free z
   ·rcases fB q with z | ⟨_,z⟩
    ·exact free z
    ·cases z
  ·rcases(f2 b hb).2.2.2.1 with z | z
   ·exact I3.ok.zS b o p z
   ·exact absurd (N7 (tv p) (N4 I3.ok.bsz z)) (OH _)
  ·rcases NQ.mp (I3.km b z) with q | q
   ·exact(f2 b hb).2.1 q
   ·exact(f2 b hb).2.2.1 q
 have I4:∀tk,Inv X' [] (qC tn'.length ix σ) H3 { s3 with heap:=h₁,toks:=tk }:=fun tk=>by
  have hloc:=I3.loc
  refine⟨okX,by rw[hXs],I3.bare,?_,⟨fun y=>([]:List (Str × NB)).reverse.lookup y,by rw[hXe];exact hns₁,fun i y v e1 e2 e3=>?_⟩,fun y c p=>?_,?_,fun y c p=>?_,fun p hp=>?_,?_,?_⟩
  ·rw[hXf,hXex,hXH,hXs];exact Un.kept keep4
  ·rw[hXN,hN] at e1
   by_cases hit':i<tn'.length
   ·exfalso
    unfold qC at e2
    rw[NN (by simpa using hit'),Qg,if_pos hit'] at e2
    cases e2
   ·have e10:N'[i]?=some y:=by rw[hN];exact e1
    obtain⟨j,rfl⟩:∃j,i=tn'.length+j:=⟨i - tn'.length,by lia⟩
    have e1':(ix.map fun i=>(X.N[i]?).getD ("" : Str))[j]?=some y:=by
     rw[NR (by lia)] at e1
     rw[show tn'.length+j - tn'.length=j by lia] at e1
     exact e1
    have e2':(ix.map fun i=>(σ[i]?).join)[j]?=some (some v):=by
     unfold qC at e2
     rw[NR (by simp)] at e2
     simpa using e2
    rw[NU] at e1' e2'
    cases hj:ix[j]? with
    | none=>rw[hj] at e1';cases e1'
    | some i0=>
     rw[hj] at e1' e2'
     have e1'':(X.N[i0]?).getD ("" : Str)=y:=by simpa using e1'
     have e2'':(σ[i0]?).join=some v:=by simpa using e2'
     have hsv:σ[i0]?=some (some v):=by
      cases q:σ[i0]? with
      | none=>rw[q] at e2'';cases e2''
      | some z=>rw[q] at e2'';have:z=some v:=by simpa using e2''
                rw[this]
     have hlt:i0<X.N.length:=by
      have:=(Og.mp hsv).1
      rw[I3.len] at this;exact this
     have hNy:X.N[i0]?=some y:=by
      rw[NM hlt] at e1'' ⊢
      simpa using e1''
     have hyt:y∈N'.drop tn'.length:=by
      refine Ob (i:=j) ?_
      rw[Qx];exact e10
     have hyf:=hcap y hyt
     have hyc:=outc (y,.free) (lookup_mem hyf) rfl
     obtain⟨m,hn,hl⟩:=hloc
     obtain⟨u,r,l⟩:=hl i0 y v hNy hsv (.inr (.inl hyc))
     refine⟨u,r,?_⟩
     rcases l with⟨k1,_⟩ | ⟨_,c,p,z⟩
     ·have hyc':X.env.kindOf y=some .cell:=hyc
      rw[k1] at hyc';cases hyc'
     ·obtain⟨c',p'⟩:=hcl2 y (lookup_mem hyf)
      have pc:c'=c:=by
       have:=hcl1 y c' p'
       rw[p] at this;cases this;rfl
      subst pc
      refine .inr ⟨.inl ?_,c',by rw[hXe];exact p',?_⟩
      ·rw[hXe];exact eH I3.ok.kind hyf hyc
      ·obtain⟨o,q1,q2⟩:=z
       exact⟨o,keep4 c' o q1,q2⟩
  ·rw[hXe] at p
   obtain⟨v,o,q1,q2⟩:=I3.cell y c (hcl1 y c p)
   exact⟨v,o,keep4 c o q1,q2⟩
  ·rw[hXe];exact I3.hok.fresh (NC _)
  ·rw[hXe] at p;exact I3.gm y c (hcl1 y c p)
  ·rw[hXpn] at hp;cases hp
  ·rw[hXp,hXw];exact I3.hok.kept keep4
  ·rw[hXN,hN];simp[qC]
 -- the loop
 have stat:∀{H':Hp},(∀b∈fp,H' b=none)->∀b∈fp,m7 X' [] H' b:=fun hn b hb=>by
  refine⟨hn b hb,by rw[hXe];exact fpC b hb,?_,.inl (by rw[hXex];exact hb),fun y c p=>?_,fun p hp=>by rw[hXpn] at hp;cases hp⟩
  ·rw[hXf];intro z
   rcases NQ.mp (I3.km b z) with q | q
   ·exact(f2 b hb).2.1 q
   ·exact(f2 b hb).2.2.1 q
  ·rw[hXe] at p;exact(f2 b hb).2.2.2.2.1 y c (hcl1 y c p)
 have fin:∀{H5:Hp} {s5:NF} {σ5:St},Inv X' [] σ5 H5 s5->Q (.ref acc) H5->compPost (model X.prog X.w) X.A X.xe use Q2 (.ref acc) s3.heap.objs.size (.ok .next) s5:=fun{H5 s5 σ5} I5 q=>by
  obtain⟨m,hn,_⟩:=I5.loc
  rw[hXe] at hn
  have hn':s5.heap.Ns s3.heap.objs.size m:=hn
  obtain⟨oC,esC,epC,hC1,hC2,hC3⟩:=hn'
  have u5:=I5.base
  rw[hXf,hXex,hXH,hXs] at u5
  have fr:H5 s3.heap.objs.size=none:=by have:=I5.free;rw[hXe] at this;exact this
  have hok5:=I5.hok
  rw[hXp,hXw] at hok5
  have hos:s5.os=s3.os:=by have:=I5.os;rw[hXs] at this;exact this
  have IX:Inv X pins σ H5 s5:=I3.vS (s':=s5) (ch:=fp) hos u5 hok5 I5.bare (fun b hb=>by
   obtain⟨g0,g1,g2,g3,g4,g5⟩:=f2 b hb
   exact⟨g3,g1,g4,g5⟩)
  have cC:∀x c,X.env.cells.lookup x=some c->c≠s3.heap.objs.size:=fun x c z e=>by
   obtain⟨v,q⟩:=I3.cell x c z
   exact absurd q.lt (by rw[e];exact OH _)
  have pC:∀p∈X.pn++pins,p.1≠s3.heap.objs.size:=fun p hp e=>by
   have:=tv (I3.pin p hp).1
   rw[e] at this
   exact OH _ this
  refine hfin acc s3.heap.objs.size H5 s5 oC (IX.kX fun p hp=>?_) cC I3.sz pC ⟨m,fun h' z=>⟨oC,esC,epC,z,hC2,hC3⟩⟩ q
  rcases Oe.mp hp with z | z
  ·exact IX.pin p (NI _ z)
  ·have e:=NY.mp z
   subst e
   refine⟨hC1,fr,Qd I3.lt,I3.Hj (NC _),fun v e=>?_⟩
   have e':oC.data=.cell v:=e
   rw[hC2] at e';cases e'
 have loop:∀tk,codeAny (model X.prog X.w) X.A (.compLoop (.ListComp elt [⟨tg,iter,ifs,0⟩] scope pos) 0 (.ref it) (.ref acc) (compEnvC scope cl s3.heap.objs.size X.env))
   (compPost (model X.prog X.w) X.A X.xe use Q2 (.ref acc) s3.heap.objs.size) { s3 with heap:=h₁,toks:=tk }:=fun tk=>by
  refine vY (fun n s'=>∃i ys σ' H',Inv X' [] σ' H' s'/\iT tn'.length ix σ σ'/\tn i s'.heap/\(∀b∈fp,H' b=none)/\W i n ys H') (fun n s5 h5=>?_) m0
   ⟨0,[],qC tn'.length ix σ,H3,I4 tk,⟨_,Rp,rfl⟩,T.keep _ _ _ st3' fun b _ o q=>keep4 b o q,fpn,w0⟩
  obtain⟨i,ys,σ5,H5,I5,hσ,st5,fr5,w5⟩:=h5
  rcases turn i n ys H5 w5 with⟨stop,q⟩ | ⟨go,step⟩
  ·have d:=T.done X' hXp hXw hXK hXc i [] s5 σ5 H5 (fun _ _=>False) I5 (stat fr5) st5 stop
   rw[hXA] at d
   refine thn d fun r s6 ⟨hr,I6⟩=>?_
   subst hr
   exact fin I6 q
  ·have d:=T.item X' hXp hXw hXK hXc i [] s5 σ5 H5 (fun _ _=>False) I5 (stat fr5) st5 go
   rw[hXA] at d
   refine thn d fun r s6 ⟨u,hr,h6⟩=>?_
   subst hr
   refine thn h6 fun _ s7 ⟨z,H7,I7,r7,y7,st7,fr7⟩=>?_
   have I7':=I7.pinned (stat fr7) (T.obj _ _ st7)
   have again:∀{H9:Hp} {s9:NF} {ys9:List V} {σ9:St},Inv X' ([]++i8 fp s7.heap) σ9 H9 s9->iT tn'.length ix σ σ9->(∃m',m'<n/\W (i+1) m' ys9 H9)->∃m',m'<n/\∃i ys σ' H',Inv X' [] σ' H' s9/\iT tn'.length ix σ σ'/\tn i s9.heap/\(∀b∈fp,H' b=none)/\W i m' ys H':=fun{H9 s9 ys9 σ9} I9 c9 ⟨m',hm,w9⟩=>by
    refine⟨m',hm,i+1,ys9,_,H9,I9.gY,c9,T.keep _ _ _ st7 fun b hb o e=>(I9.pin (b,o) (NI _ (NI _ (dO hb e)))).1,fun b hb=>?_,w9⟩
    obtain⟨o,e,_⟩:=T.obj _ _ st7 b hb
    exact(I9.pin (b,o) (NI _ (NI _ (dO hb e)))).2.1
   have ht':=ht cl s3.heap.objs.size s3 H3 fp
   have he':=he cl s3.heap.objs.size s3 H3 fp
   have hg':=hg cl s3.heap.objs.size s3 H3 fp
   rw[hX'] at ht' he' hg'
   rw[<- hXe]
   have a0:=hg' _ s7 σ5 H7 z u _ I7' r7 (step σ5 z H7 hσ y7)
   rw[hXp,hXw,hXA,hXx] at a0
   refine thn a0 fun _ s8 ⟨σ8,H8,I8,c8,q8⟩=>?_
   have a1:=ht' _ s8 _ H8 _ I8 q8
   rw[hXp,hXw,hXA,hXx] at a1
   refine thn a1 fun b s9 ⟨H9,I9,q9⟩=>?_
   cases b with
   | false=>exact again I9 c8 q9
   | true=>
    have a2:=he' _ s9 _ H9 _ I9 q9
    rw[hXp,hXw,hXA,hXx] at a2
    refine thn a2 fun yv s10 ⟨y,H10,I10,r10,q1,q2,q3⟩=>?_
    have a3:=jI (X:=X') _ s10 _ H10 (.ref acc) [y] (.ref acc) [yv] (fun _ Hq=>∃m',m'<n/\W (i+1) m' (ys++[y]) Hq) I10 rfl (.cons r10 .nil) ⟨acc,ys,y,rfl,rfl,q1,q2,q3⟩
    rw[hXp,hXw,hXA,hXx] at a3
    exact thn a3 fun _ s11 ⟨_,H11,I11,_,q11⟩=>again I11 c8 q11
 refine codeAny_compStart_list (loop _) ?_
 exact T.self _ 0 _ _ _ (T.keep _ _ _ st3' fun b _ o q=>keep4 b o q) (loop _)
section
variable {X:Cx}{elt iter tg:Expr}{tn':List Str}{tgr:TG}{ifs:List Expr}{scope osc:Ru}{pos:Pos}{wi:TI}{tt:TT}{te:TE}
theorem Dg (ix) (tn' N')
  (hxe:X.xe=fun _ _=>False) (hc:X.calm=true) (ho:X.env.scope=osc) (hN:N'=tn'++ix.map fun i=>(X.N[i]?).getD ("" : Str)) (hnd:N'.Nodup)
  (hall:(∀y∈scope.names,y.2=.free->osc.names.lookup y.1=some .cell)/\(∀y∈scope.names,y.2≠.cell)/\scope.kind=.function/\(∀y∈scope.names,y.2=.local->scope.names.lookup y.1=some .local)/\(∀y∈N'.drop tn'.length,scope.names.lookup y=some .free))
  (hi:PI X tg iter wi) (hg:∀cl C aE aG fp,PG (bO X scope cl C aE aG fp N') tg tgr)
  (ht:∀cl C aE aG fp,PTs (bO X scope cl C aE aG fp N') ifs tt)
  (he:∀cl C aE aG fp,PE (bO X scope cl C aE aG fp N') elt te)
  (hs:∀x,foldedSetIterable iter X.env x=pure x:=by intro _;rfl) :
  PE X (.ListComp elt [⟨tg,iter,ifs,0⟩] scope pos) (um wi tn'.length ix tgr tt te):=by
 intro pins s σ H Q I h
 have e:eval (.ListComp elt [⟨tg,iter,ifs,0⟩] scope pos) X.env=comprehension (.ListComp elt [⟨tg,iter,ifs,0⟩] scope pos) scope X.env (firstIterPos [⟨tg,iter,ifs,0⟩] pos) (newList []) false (eval iter X.env) none:=by
  rfl
 refine rA ix N' hxe hc ho hN hnd hall hi hg ht he hs I h fun acc C H5 s5 o I5 cC hC pC hm q=>?_
 obtain⟨m,hm⟩:=hm
 exact⟨m,hm _ (I5.pin (C,o) (NI _ (NI _ (NY.mpr rfl)))).1,fun h' hs'=>⟨.ref acc,H5,I5.HV cC hC pC hs',rfl,q⟩⟩
theorem vU {py spos:Pos} (ix) (tn' N')
  (hxe:X.xe=fun _ _=>False) (hc:X.calm=true) (ho:X.env.scope=osc) (hN:N'=tn'++ix.map fun i=>(X.N[i]?).getD ("" : Str)) (hnd:N'.Nodup)
  (hall:(∀y∈scope.names,y.2=.free->osc.names.lookup y.1=some .cell)/\(∀y∈scope.names,y.2≠.cell)/\scope.kind=.function/\(∀y∈scope.names,y.2=.local->scope.names.lookup y.1=some .local)/\(∀y∈N'.drop tn'.length,scope.names.lookup y=some .free))
  (hi:PI X tg iter wi) (hg:∀cl C aE aG fp,PG (bO X scope cl C aE aG fp N') tg tgr)
  (ht:∀cl C aE aG fp,PTs (bO X scope cl C aE aG fp N') ifs tt)
  (he:∀cl C aE aG fp,PE (bO X scope cl C aE aG fp N') elt te)
  (hNN:X.N.Nodup) (hy:X.N[i]?=some y) (hl:X.env.scope.names.lookup y=some .local)
  (hsw:swapsWith (.ListComp elt [⟨tg,iter,ifs,0⟩] scope pos) (some (.Name y py)) spos.line X.env=pure true:=by rfl)
  (hs:∀x,foldedSetIterable iter X.env x=pure x:=by intro _;rfl) :
  PS X (.Assign [.Name y py] (.ListComp elt [⟨tg,iter,ifs,0⟩] scope pos) spos) (E_ (um wi tn'.length ix tgr tt te) (iZ i)):=by
 intro pins s σ H D I h
 rw[exec_Assign_Name_used _ _ _ _ hsw]
 refine k3 (Qe ?_)
 refine k3 ?_
 refine k3 (rA ix N' hxe hc ho hN hnd hall hi hg ht he hs I h fun acc C H5 s5 o I5 cC hC pC hm q=>?_)
 obtain⟨m,hm⟩:=hm
 refine RV (jz (v:=.ref acc) I5 hNN hy (.inl hl) rfl (fun s6 I6=>?_) (.inr hl))
 refine⟨m,hm _ (I6.pin (C,o) (NI _ (NI _ (NY.mpr rfl)))).1,fun h' hs'=>?_⟩
 exact td (td ⟨_,H5,I6.HV cC hC pC hs',q⟩)
end
end L2
namespace L2.FE
open PySem PySem.Spec PyProof.Rows
inductive D where
 | non | bl (b:Bool) | int (i:Int) | str (x:Str) | tup (ds:List D) | frl (ds:List D) | ref (n:Nat) | fn (x:Str) | edic | scr (ds:List D) | exc (c:Str) (fs:List (Str × Int)) | clo (f:Str) (ds:List D)
inductive O where
 | lst (ds:List D) | set (ns:List Int) | dic (kvs:List (Key × D)) | dit (kvs:List (List Key × D))
noncomputable abbrev Hh:=List O
noncomputable abbrev En:=List (Option D)
structure Xc where
 cls:Str
 fs:List (Str × Int)
inductive R (β:Type) where
 | ok (b:β) (h:Hh)
 | err (x:Xc) (h:Hh)
 | bad
noncomputable def R.bind (r:R β) (f:β->Hh->R γ):R γ:=match r with
 | .ok b h=>f b h
 | .err x h=>.err x h
 | .bad=>.bad
inductive Fl where
 | nx (e:En) | bk (e:En) | ct (e:En) | rt (d:D)
noncomputable abbrev ME:=En->Hh->R D
noncomputable abbrev MT:=En->Hh->R Bool
noncomputable abbrev MA:=En->Hh->R (List D)
noncomputable abbrev MS:=En->Hh->R Fl
noncomputable def Fro (K:gV) (H:Hp) (p:Addr) (vs:List V):Prop:=
 (∃o,H p=some (.frz o (.lst vs)))\/∃o its n,K.lookup p=some o/\o.cls=.type "list" /\ o.dict=none/\o.data=.seq its n/\its.size<=sizeLine/\Vals vs its.toList
theorem Fro.sq {K:gV} (h:Fro K H p vs):SqL K H p vs:=by
 rcases h with⟨o,h⟩ | h
 ·exact .inl (.inr ⟨o,h⟩)
 ·exact .inr h
noncomputable def Fr1 (H:Hp) (p:Addr) (vs:List V):Prop:=∃o,H p=some (.frz o (.lst vs))
theorem Fr1.fro {K:gV} (h:Fr1 H p vs):Fro K H p vs:=.inl h
theorem Fr1.sq {K:gV}{H:Hp}{p:Addr}{vs:List V} (h:Fr1 H p vs):SqL K H p vs:=let ⟨o,h⟩:=h;.inl (.inr ⟨o,h⟩)
theorem Fr1.rd (h:Fr1 H p vs):Rd H p (.lst vs):=.inr h
noncomputable def AtO (p:Addr) (o:Obj):HO:=.frz o (.ext fun h=>h.get? p=some o)
noncomputable def XFs (H:Hp) (dc:Option Addr) (fs:List (Str × Int)):Prop:=(dc=none/\fs=[])\/∃dx od,dc=some dx/\H dx=some (.frz od (.xd (fs.map fun x=>(x.1,V.int x.2))))
noncomputable def lg (H:Hp) (clos:List (Str × Addr)):List Str->List V->Prop:=Paired fun y v=>∃c o u,clos.lookup y=some c/\H c=some (AtO c o)/\o.data=.cell (some u)/\RelV v u
structure oy (f x qual) (ys) (params) (body:Expr) (scope:Ru):Prop where
 tx:∃(p0 p2 p3:Pos) (qs:List (Str × Pos)),qs.map (·.1)=ys/\body=.Call (.Name f p0) (qs.map (fun y=>TZ y.1 y.2)++[.Name x p2]) [] p3
 kind:scope.kind=.function
 co:scope.isCoroutine=false
 gen:scope.isGenerator=false
 Gp:∀z∈scope.names,z.2≠.cell
 glob:scope.names.lookup f=some .globalImplicit
 loc:scope.names.lookup x=some .local
 free:∀y∈ys,scope.names.lookup y=some .free/\(y == ("__debug__" : Str))=false/\(y == ("__classdict__" : Str))=false
 nd:(f == ("__debug__" : Str))=false/\(x == ("__debug__" : Str))=false
 bind:∀clos pm cdv ctv u,bindArgs (PySem.W.kla_fn "<lambda>" qual params body scope clos pm cdv ctv) ⟨[u],[]⟩=pure [(x,u)]
noncomputable def FN (f:Str) (clos:List (Str × Addr)) (ys:List Str) (o:Obj) (c':Addr) (qual:Str):Prop:=
 ∃params body scope pm ctv x,o=OC "<lambda>" qual params body scope clos pm c' ctv/\oy f x qual ys params body scope
mutual
inductive aJ (K) (g) (α) (H):D->V->Prop where
 | non:aJ K g α H .non .non
 | bl (b):aJ K g α H (.bl b) (.bl b)
 | int (i):aJ K g α H (.int i) (.int i)
 | str (x):aJ K g α H (.str x) (.str x)
 | ref:α[n]?=some p->aJ K g α H (.ref n) (.ref p)
 | tup {ds p vs}:H p=some (.tup vs)->ax K g α H ds vs->aJ K g α H (.tup ds) (.ref p)
 | frl {ds p vs}:Fr1 H p vs->ax K g α H ds vs->aJ K g α H (.frl ds) (.ref p)
 | scr {ds p vs}:Fro K H p vs->ax K g α H ds vs->aJ K g α H (.scr ds) (.ref p)
 | fn:g x=some f->aJ K g α H (.fn x) (.ref f)
 | edic:H p=some (.frz o (.dK []))->aJ K g α H .edic (.ref p)
 | exc:g c=some C->H p=some (AtO p o)->o.cls=.ref C->(∃vs,o.data=.fields vs)->XFs H o.dict fs->aJ K g α H (.exc c fs) (.ref p)
 | clo {f ds p o clos ys vs c' oc qual t vc}:H p=some (AtO p o)->FN f clos ys o c' qual->H c'=some (AtO c' oc)->oc.data=.fields vc->vc[1]?=some (.str qual t)->lg H clos ys vs->ax K g α H ds vs->aJ K g α H (.clo f ds) (.ref p)
inductive ax (K) (g:Str->Option Addr) (α:List Addr) (H:Hp):List D->List V->Prop where
 | nil:ax K g α H [] []
 | cons:aJ K g α H d v->ax K g α H ds vs->ax K g α H (d::ds) (v::vs)
end
structure Ex0 (K:gV) (α) (H:Hp) (α':List Addr) (H':Hp):Prop where
 pre:α <+: α'
 tup:∀p xs , H p=some (.tup xs)->H' p=some (.tup xs)
 frz:∀p o u , H p=some (.frz o u)->H' p=some (.frz o u)
 tbl:∀p ps , H p=some (.tbl ps)->∃more,H' p=some (.tbl (ps++more))
theorem Ex0.fro {K:gV} (e:Ex0 K α H α' H') (p) (xs) (h:Fro K H p xs):Fro K H' p xs:=by
 rcases h with⟨o,h⟩ | h
 ·exact .inl ⟨o,e.frz _ _ _ h⟩
 ·exact .inr h
theorem Ex0.fr1 {K:gV} (e:Ex0 K α H α' H') (p) (xs) (h:Fr1 H p xs):Fr1 H' p xs:=let ⟨o,h⟩:=h;⟨o,e.frz _ _ _ h⟩
structure Ext (K) (α) (H) (α') (H'):Prop extends Ex0 K α H α' H' where
 kept:∀p o,H p=some o->p∉α->(∀ps,o≠.tbl ps)->H' p=some o
 new:∀p,p∈α'->p∉α->H p=none
section
variable {K:gV}{g:Str->Option Addr}{α α' α'':List Addr}{H H' H'':Hp}
theorem Ext.keep (e:Ext K α H α' H') (p) (o) (h:H p=some o) (n:p∉α) (t:∀ps,o≠.tbl ps:=by intro _ z;cases z):H' p=some o:=e.kept p o h n t
theorem Ext.stays (e:Ext K α H α' H'){p:Addr}{o:HO} (h:H p=some o) (n:p∉α):H' p≠none:=by
 cases o with
 | tbl ps=>obtain⟨m,q⟩:=e.tbl p ps h;simp_all
 | _=>rw[e.keep p _ h n];simp
theorem Ex0.refl:Ex0 K α H α H:=⟨QN _,fun _ _ h=>h,fun _ _ _ h=>h,fun _ ps h=>⟨#[],by grind⟩⟩
theorem Ex0.trans (a:Ex0 K α H α' H') (b:Ex0 K α' H' α'' H''):Ex0 K α H α'' H'':=⟨a.pre.trans b.pre,fun p xs h=>b.tup p xs (a.tup p xs h),fun p o u h=>b.frz p o u (a.frz p o u h),fun p ps h=>by
  obtain⟨m1,e1⟩:=a.tbl p ps h
  obtain⟨m2,e2⟩:=b.tbl p _ e1
  grind⟩
theorem Ext.refl:Ext K α H α H:=⟨.refl,fun _ _ h _ _=>h,fun _ h n=>absurd h n⟩
theorem Ext.trans (a:Ext K α H α' H') (b:Ext K α' H' α'' H''):Ext K α H α'' H'':=⟨a.toEx0.trans b.toEx0,fun p o h n t=>b.kept p o (a.kept p o h n t) (fun z=>by rw[a.new p z n] at h;cases h) t,fun p z n=>by
  by_cases q:p∈α'
  ·exact a.new p q n
  ·have:=b.new p z q
   cases e:H p with
   | none=>rfl
   | some o=>exact absurd this (a.stays e n)⟩
theorem Ex0.get (e:Ex0 K α H α' H'){n:Nat}{p:Addr} (h:α[n]?=some p):α'[n]?=some p:=by
 obtain⟨t,rfl⟩:=e.pre
 have hl:n<α.length:=by
  by_cases hl:n<α.length
  ·exact hl
  ·rw[Ot (by lia)] at h;cases h
 rw[NN hl];exact h
mutual
theorem aJ.ex0 (e:Ex0 K α H α' H'):∀{d:D}{v:V},aJ K g α H d v->aJ K g α' H' d v
 | _,_,.non=>.non
 | _,_,.bl b=>.bl b
 | _,_,.int i=>.int i
 | _,_,.str x=>.str x
 | _,_,.ref h=>.ref (e.get h)
 | _,_,.tup h r=>.tup (e.tup _ _ h) (ax.ex0 e r)
 | _,_,.frl h r=>.frl (e.fr1 _ _ h) (ax.ex0 e r)
 | _,_,.scr h r=>.scr (e.fro _ _ h) (ax.ex0 e r)
 | _,_,.fn h=>.fn h
 | _,_,.edic h=>.edic (e.frz _ _ _ h)
 | _,_,.exc hg h hc hd hf=>.exc hg (e.frz _ _ _ h) hc hd (hf.elim .inl fun⟨dx,od,a,b⟩=>.inr ⟨dx,od,a,e.frz _ _ _ b⟩)
 | _,_,.clo h l hc hd hv cs r=>.clo (e.frz _ _ _ h) l (e.frz _ _ _ hc) hd hv (L2.Paired.qd cs fun _ _ ⟨c,o,u,l,a,b⟩=>⟨c,o,u,l,e.frz _ _ _ a,b⟩) (ax.ex0 e r)
theorem ax.ex0 (e:Ex0 K α H α' H'):∀{ds:List D}{vs:List V},ax K g α H ds vs->ax K g α' H' ds vs
 | _,_,.nil=>.nil
 | _,_,.cons r t=>.cons (aJ.ex0 e r) (ax.ex0 e t)
end
theorem aJ.ext (e:Ext K α H α' H') (r:aJ K g α H d v):aJ K g α' H' d v:=r.ex0 e.toEx0
theorem ax.ext (e:Ext K α H α' H') (r:ax K g α H d v):ax K g α' H' d v:=r.ex0 e.toEx0
theorem ax.length:∀{ds:List D}{vs:List V},ax K g α H ds vs->ds.length=vs.length
 | _,_,.nil=>rfl
 | _,_,.cons _ t=>by simp[ax.length t]
theorem ax.append:∀{ds es:List D}{vs us:List V},ax K g α H ds vs->ax K g α H es us->ax K g α H (ds++es) (vs++us)
 | _,_,_,_,.nil,s=>s
 | _,_,_,_,.cons r t,s=>.cons r (ax.append t s)
theorem ax.get:∀{ds:List D}{vs:List V}{i:Nat}{d:D},ax K g α H ds vs->ds[i]?=some d->∃v,vs[i]?=some v/\aJ K g α H d v
 | _,_,_,_,.nil,e=>by simp at e
 | _,_,0,_,.cons r _,e=>by simp_all
 | _,_,i+1,d,.cons _ t,e=>by
  obtain⟨u,h1,h2⟩:=ax.get t (by simpa using e)
  simp_all
theorem ax.set {d:D}{v:V} (r:aJ K g α H d v):∀{ds:List D}{vs:List V} (i:Nat),ax K g α H ds vs->ax K g α H (ds.set i d) (vs.set i v)
 | _,_,_,.nil=>.nil
 | _,_,0,.cons _ t=>.cons r t
 | _,_,i+1,.cons q t=>.cons q (ax.set r i t)
theorem ax.take:∀{ds:List D}{vs:List V} (n:Nat),ax K g α H ds vs->ax K g α H (ds.take n) (vs.take n)
 | _,_,0,_=>.nil
 | _,_,_+1,.nil=>.nil
 | _,_,n+1,.cons r t=>.cons r (ax.take n t)
theorem ax.drop:∀{ds:List D}{vs:List V} n , ax K g α H ds vs->ax K g α H (ds.drop n) (vs.drop n)
 | _,_,0,r=>r
 | _,_,_+1,.nil=>.nil
 | _,_,n+1,.cons _ t=>ax.drop n t
theorem ax.ints (ns:List Int):ax K g α H (ns.map D.int) (ns.map V.int):=by
 induction ns with
 | nil=>exact .nil
 | cons n r ih=>exact .cons (.int n) ih
theorem ax.C5:∀{ns:List Int}{vs:List V},ax K g α H (ns.map D.int) vs->vs=ns.map V.int
 | [],_,.nil=>rfl
 | n::r,_,.cons (.int _) t=>by rw[ax.C5 t];rfl
theorem ax.flat {ds:List D}{vs:List V} (r:ax K g α H ds vs):∀k,ax K g α H (N1 k ds).flatten (N1 k vs).flatten
 | 0=>.nil
 | k+1=>by rw[Qi];exact r.append (ax.flat r k)
end
noncomputable def OAt (K:gV) (g:Str->Option Addr) (α:List Addr) (H:Hp) (p:Addr):O->Prop
 | .lst ds=>∃vs,H p=some (.lst vs)/\ax K g α H ds vs
 | .set ns=>H p=some (.set (fun k=>ns.any (· == k)) ns.length)
 | .dic kvs=>∃kws,H p=some (.dK kws)/\Paired (fun(a:Key × D) (b:Key × V)=>a.1=b.1/\aJ K g α H a.2 b.2) kvs kws
 | .dit kvs=>∃kws,H p=some (.dT kws)/\Paired (fun(a:List Key × D) (b:List Key × V)=>a.1=b.1/\aJ K g α H a.2 b.2) kvs kws
noncomputable def vF (H:Hp) (q:Addr × Pos × Str):Prop:=H q.1=some (.tbl #[])\/∃c' oc vc t,H q.1=some (.tbl #[rawInt q.2.1.line,rawInt q.2.1.col,.ref c'])/\H c'=some (AtO c' oc)/\oc.data=.fields vc/\vc[1]?=some (.str q.2.2 t)
noncomputable def zV (fd:QW):Option Pos:=match fd.body with
 | .stmts b=>(match b.getLast? with
  | some (.Return (some (.Lambda _ _ _ pos)) _)=>some pos
  | some (.Return (some (.Call _ es _ _)) _)=>(match es.getLast? with | some (.Lambda _ _ _ pos)=>some pos | _=>none)
  | _=>none)
 | _=>none
noncomputable def jN (K:gV) (f:Addr):Option (Addr × Pos × Str):=match K.lookup f with
 | some ⟨_,_,.func fd,_⟩=>(match zV fd,fd.code with
  | some pos,.ref c=>(match K.lookup c with
   | some ⟨_,_,.fields vs,_⟩=>(match (vs[11]?:Option NB) with | some (.ref P)=>some (P,pos,fd.qualname++".<locals>." ++ "<lambda>") | _=>none)
   | _=>none)
  | _,_=>none)
 | _=>none
noncomputable def jq (K:gV) (H:Hp):Prop:=∀f P,jN K f=some P->vF H P
structure aU (K) (g) (α:List Addr) (H) (h:Hh):Prop where
 len:α.length=h.length
 inj:∀(n m:Nat) p , α[n]?=some p->α[m]?=some p->n=m
 here:∀(n:Nat) p o , α[n]?=some p->h[n]?=some o->OAt K g α H p o
 tab:jq K H
section
variable {K:gV}{g:Str->Option Addr}{α α':List Addr}{H H':Hp}{h:Hh}
theorem Paired.JY (e:Ex0 K α H α' H') (r:Paired (fun(a:Key × D) (b:Key × V)=>a.1=b.1/\aJ K g α H a.2 b.2) kvs kws) :
  Paired (fun(a:Key × D) (b:Key × V)=>a.1=b.1/\aJ K g α' H' a.2 b.2) kvs kws:=L2.Paired.qd r fun _ _ q=>⟨q.1,q.2.ex0 e⟩
theorem Paired.JE (e:Ex0 K α H α' H') (r:Paired (fun(a:List Key × D) (b:List Key × V)=>a.1=b.1/\aJ K g α H a.2 b.2) kvs kws) :
  Paired (fun(a:List Key × D) (b:List Key × V)=>a.1=b.1/\aJ K g α' H' a.2 b.2) kvs kws:=L2.Paired.qd r fun _ _ q=>⟨q.1,q.2.ex0 e⟩
theorem vF.mono (t:vF H P) (a:∀b ps,H b=some (.tbl ps)->H' b=some (.tbl ps)) (z:∀b o u,H b=some (.frz o u)->H' b=some (.frz o u)):vF H' P:=by
 rcases t with h | ⟨c',oc,vc,tk,h,hc,hd⟩
 ·exact .inl (a _ _ h)
 ·exact .inr ⟨c',oc,vc,tk,a _ _ h,z _ _ _ hc,hd⟩
theorem jq.mono (t:jq K H) (a:∀b ps,H b=some (.tbl ps)->H' b=some (.tbl ps)) (z:∀b o u,H b=some (.frz o u)->H' b=some (.frz o u)):jq K H':=fun f P e=>(t f P e).mono a z
theorem jq.upd (t:jq K H) (n:H p=none\/∃u,H p=some u/\(∀ys,u≠.tup ys)/\(∀w ys,u≠.frz w ys)/\∀ps,u≠.tbl ps):jq K (upd H p o):=by
 have ne:∀q u,H q=some u->((∃w ys,u=.frz w ys)\/∃ps,u=.tbl ps)->q≠p:=by
  grind
 intro f P e
 rcases t f P e with h | ⟨c',oc,vc,tk,h,hc,hd⟩
 ·exact .inl (by rw[aN (ne _ _ h (.inr ⟨_,rfl⟩))];exact h)
 ·exact .inr ⟨c',oc,vc,tk,by rw[aN (ne _ _ h (.inr ⟨_,rfl⟩))];exact h,by rw[aN (ne _ _ hc (.inl ⟨_,_,rfl⟩))];exact hc,hd⟩
theorem OAt.isS {p:Addr}{o:O} (h:OAt K g α H p o):∃u,H p=some u/\(∀ys,u≠.tup ys)/\(∀w ys,u≠.frz w ys)/\∀ps,u≠.tbl ps:=by
 cases o with
 | lst ds=>obtain⟨vs,e,_⟩:=h;simp_all
 | set n=>exact⟨_,h,fun _ z=>(nomatch z),fun _ _ z=>(nomatch z),fun _ z=>nomatch z⟩
 | dic kvs=>obtain⟨vs,e,_⟩:=h;simp_all
 | dit kvs=>obtain⟨vs,e,_⟩:=h;simp_all
theorem aU.mem (r:aU K g α H h) (hp:p∈α):∃u,H p=some u/\(∀ys,u≠.tup ys)/\(∀w ys,u≠.frz w ys)/\∀ps,u≠.tbl ps:=by
 obtain⟨n,hn,e⟩:=O6 hp
 have hn':n<h.length:=by rw[<- r.len];exact hn
 exact(r.here n p _ (by simp_all) (NM hn')).isS
theorem OAt.ex0 (e:Ex0 K α H α' H') (h:OAt K g α H p o) (k:∀u,H p=some u->H' p=some u):OAt K g α' H' p o:=by
 cases o with
 | lst ds=>obtain⟨vs,a,r⟩:=h;exact⟨vs,k _ a,r.ex0 e⟩
 | set n=>exact k _ h
 | dic kvs=>obtain⟨kws,a,r⟩:=h;exact⟨kws,k _ a,Paired.JY e r⟩
 | dit kvs=>obtain⟨kws,a,r⟩:=h;exact⟨kws,k _ a,Paired.JE e r⟩
noncomputable def EA (H:Hp) (p:Addr):Prop:=H p=none\/∃u,H p=some u/\(∀ys,u≠.tup ys)/\(∀w ys,u≠.frz w ys)/\∀ps,u≠.tbl ps
theorem Ex0.upd (n:EA H p):Ex0 K α H α (upd H p o):=by
 have ne:∀q u,H q=some u->((∃ys,u=.tup ys)\/(∃w ys,u=.frz w ys)\/∃ps,u=.tbl ps)->q≠p:=by
  rintro q u e z rfl
  rcases n with n | ⟨u',e',n1,n2,n3⟩
  ·simp_all
  simp_all
 refine⟨QN _,fun q xs h=>?_,fun q o u h=>?_,fun q ps h=>⟨#[],?_⟩⟩
 ·rw[aN (ne q _ h (.inl ⟨_,rfl⟩))];exact h
 ·rw[aN (ne q _ h (.inr (.inl ⟨_,_,rfl⟩)))];exact h
 ·rw[aN (ne q _ h (.inr (.inr ⟨_,rfl⟩))),h];simp
theorem Ex0.more (e:Ex0 K α H α H') (l):Ex0 K α H (α++l) H':=⟨List.prefix_append _ _,e.tup,e.frz,e.tbl⟩
theorem Ext.fresh (n:H p=none):Ext K α H α (upd H p o):=⟨Ex0.upd (.inl n),fun q u h _ _=>by rw[aN (bh h n)];exact h,fun _ z m=>absurd z m⟩
theorem Ext.push (n:H p=none):Ext K α H (α++[p]) (upd H p o):=⟨(Ex0.upd (.inl n)).more _,fun q u h _ _=>by rw[aN (bh h n)];exact h,fun q z m=>by
 simp_all⟩
theorem aU.off {p:Addr}{o:HO} (r:aU K g α H h) (n:EA H p) (m:p∉α):aU K g α (upd H p o) h:=by
 refine⟨r.len,r.inj,fun k q u a b=>(r.here k q u a b).ex0 (Ex0.upd n) fun w e=>?_,r.tab.upd n⟩
 rw[aN];exact e
 rintro rfl;exact m (Ob a)
theorem aU.free (r:aU K g α H h) (n:H p=none):p∉α:=fun z=>by
 obtain⟨u,e,_⟩:=r.mem z
 simp_all
theorem aU.grow (r:aU K g α H h) (n:H p=none):aU K g α (upd H p o) h:=r.off (.inl n) (r.free n)
theorem aU.adopt {p:Addr}{u:O} (r:aU K g α H h) (n:p∉α) (a:OAt K g (α++[p]) H p u):aU K g (α++[p]) H (h++[u]):=by
 have old:∀{m:Nat} {q:Addr},(α++[p])[m]?=some q->(α[m]?=some q)\/(m=α.length/\q=p):=by
  intro m q h1
  by_cases hm:m<α.length
  ·rw[NN hm] at h1
   exact .inl h1
  ·have hl:m<(α++[p]).length:=by
    by_cases hl:m<(α++[p]).length
    ·exact hl
    ·rw[Ot (by lia)] at h1;cases h1
   have e:m=α.length:=by simp at hl;lia
   subst e
   simp at h1
   exact .inr ⟨rfl,h1.symm⟩
 refine⟨by simp[r.len],fun m k q h1 h2=>?_,fun m q w h1 h2=>?_,r.tab⟩
 ·rcases old h1 with a1 | ⟨e1,e2⟩
  ·rcases old h2 with a2 | ⟨e3,e4⟩
   ·exact r.inj m k q a1 a2
   ·rw[e4] at a1;exact absurd (Ob a1) n
  ·rcases old h2 with a2 | ⟨e3,e4⟩
   ·rw[e2] at a2;exact absurd (Ob a2) n
   ·rw[e1,e3]
 ·rcases old h1 with a1 | ⟨e1,e2⟩
  ·have hm:m<α.length:=by
    by_cases hl:m<α.length
    ·exact hl
    ·rw[Ot (by lia)] at a1;cases a1
   rw[NN (by rw[<- r.len];exact hm)] at h2
   exact(r.here m q w a1 h2).ex0 (Ex0.refl.more _) fun _ z=>z
  ·subst e1 e2
   rw[r.len] at h2
   simp at h2
   subst h2
   exact a
theorem aU.push (r:aU K g α H h) (n:H p=none) (a:OAt K g (α++[p]) (upd H p o) p u):aU K g (α++[p]) (upd H p o) (h++[u]):=(r.grow n).adopt (r.free n) a
theorem Ext.write {p:Addr}{o:HO}{k:Nat} (r:aU K g α H h) (hk:α[k]?=some p):Ext K α H α (upd H p o):=
 ⟨Ex0.upd (.inr (r.mem (Ob hk))),fun q u h m _=>by
  rw[aN];exact h
  rintro rfl;exact m (Ob hk),fun _ z m=>absurd z m⟩
theorem aU.write (r:aU K g α H h) (hk:α[k]?=some p) (a:OAt K g α (upd H p o) p u'):aU K g α (upd H p o) (h.set k u'):=by
 have x:Ext K α H α (upd H p o):=Ext.write r hk
 refine⟨by simp[r.len],r.inj,fun m q w h1 h2=>?_,r.tab.upd (.inr (r.mem (Ob hk)))⟩
 rw[List.getElem?_set] at h2
 by_cases hm:k=m
 ·simp_all
 ·rw[if_neg hm] at h2
  refine(r.here m q w h1 h2).ex0 x.toEx0 fun z e=>?_
  rw[aN];exact e
  rintro rfl;exact hm (r.inj _ _ _ hk h1)
end
noncomputable abbrev GG:=Str->Option Addr
noncomputable abbrev EE:=List Addr->Hp->Xc->Prop
structure jQ (K) (g:GG) (α) (H) (env:En) (σ:St):Prop where
 len:env.length=σ.length
 vars:∀(i:Nat) d , env[i]?=some (some d)->∃v,σ[i]?=some (some v)/\aJ K g α H d v
structure dM (K) (g:GG) (α) (H) (env) (σ) (h):Prop where
 heap:aU K g α H h
 vs:jQ K g α H env σ
noncomputable def WQ (K:gV) (g:GG) (ε:EE) (α:List Addr) (H:Hp){β:Type} (r:R β) (k:β->Hh->Prop):Prop:=match r with
 | .ok b h=>k b h
 | .err x h=>∀α' H',Ext K α H α' H'->aU K g α' H' h->ε α' H' x
 | .bad=>False
section
variable {K:gV}{g:GG}{ε:EE}{α α':List Addr}{H H':Hp}{β γ:Type}
theorem WQ.bind {f:β->Hh->R γ} (w:WQ K g ε α H (r.bind f) k):WQ K g ε α H r fun b h=>WQ K g ε α H (f b h) k:=by
 cases r<;>exact w
theorem WQ.ext (e:Ext K α H α' H') (w:WQ K g ε α H r k):WQ K g ε α' H' r k:=by
 cases r with
 | ok b h=>exact w
 | err x h=>exact fun a b c d=>w a b (e.trans c) d
 | bad=>exact w
theorem WQ.mono (w:WQ K g ε α H r k) (m:∀b h,r=.ok b h->k b h->k' b h):WQ K g ε α H r k':=by
 cases r with
 | ok b h=>exact m b h rfl w
 | err x h=>exact w
 | bad=>exact w
theorem jQ.ext {env:En}{σ:St} (v:jQ K g α H env σ) (e:Ext K α H α' H'):jQ K g α' H' env σ:=
 ⟨v.len,fun i d h=>let ⟨x,a,b⟩:=v.vars i d h;⟨x,a,b.ext e⟩⟩
theorem dM.ext (v:dM K g α H env σ h) (e:Ext K α H α' H') (r:aU K g α' H' h'):dM K g α' H' env σ h':=⟨r,v.vs.ext e⟩
theorem jQ.set (v:jQ K g α H env σ) (r:aJ K g α H d x):jQ K g α H (env.set i (some d)) (σ.set i (some x)):=by
 refine⟨by simp[v.len],fun j e h=>?_⟩
 rw[List.getElem?_set] at h ⊢
 by_cases hj:i=j
 ·subst hj
  rw[if_pos rfl] at h ⊢
  have hl:=v.len
  simp_all
 ·rw[if_neg hj] at h ⊢
  exact v.vars j e h
end
noncomputable def aS (K:gV) (g:GG) (α:List Addr) (H:Hp) (Q:VK):D->Hh->Prop:=fun d h=>∀v H' α',Ext K α H α' H'->aU K g α' H' h->aJ K g α' H' d v->Q v H'
noncomputable def mF (K:gV) (g:GG) (α:List Addr) (H:Hp) (Q:Bool->Hp->Prop):Bool->Hh->Prop:=fun b h=>∀H' α',Ext K α H α' H'->aU K g α' H' h->Q b H'
noncomputable def KI (K:gV) (g:GG) (α:List Addr) (H:Hp) (Q:List V->Hp->Prop):List D->Hh->Prop:=fun ds h=>∀vs H' α',Ext K α H α' H'->aU K g α' H' h->ax K g α' H' ds vs->Q vs H'
noncomputable def cZ (K:gV) (g:GG) (α:List Addr) (H:Hp) (E:Ends):Fl->Hh->Prop:=fun fl h=>∀H' α',Ext K α H α' H'->aU K g α' H' h->match fl with
 | .nx e=>∀σ,jQ K g α' H' e σ->E.nx σ H'
 | .bk e=>∀σ,jQ K g α' H' e σ->E.bk σ H'
 | .ct e=>∀σ,jQ K g α' H' e σ->E.ct σ H'
 | .rt d=>∀v,aJ K g α' H' d v->E.rt v H'
noncomputable def tM (K:gV) (g:GG) (ε:EE) (m:ME):TE:=fun σ H Q=>∃α env h,dM K g α H env σ h/\WQ K g ε α H (m env h) (aS K g α H Q)
noncomputable def tMT (K:gV) (g:GG) (ε:EE) (m:MT):TT:=fun σ H Q=>∃α env h,dM K g α H env σ h/\WQ K g ε α H (m env h) (mF K g α H Q)
noncomputable def tMA (K:gV) (g:GG) (ε:EE) (m:MA):TA:=fun σ H Q=>∃α env h,dM K g α H env σ h/\WQ K g ε α H (m env h) (KI K g α H Q)
noncomputable def tMS (K:gV) (g:GG) (ε:EE) (m:MS):TS:=fun E σ H=>∃α env h,dM K g α H env σ h/\WQ K g ε α H (m env h) (cZ K g α H E)
section
variable {K:gV}{g:GG}{ε:EE}{α α':List Addr}{H H':Hp}{env:En}{σ:St}{h:Hh}
theorem aS.ext (e:Ext K α H α' H') (p:aS K g α H Q d h):aS K g α' H' Q d h:=fun v H2 α2 e2 r rd=>p v H2 α2 (e.trans e2) r rd
theorem mF.ext (e:Ext K α H α' H') (p:mF K g α H Q d h):mF K g α' H' Q d h:=fun H2 α2 e2 r=>p H2 α2 (e.trans e2) r
theorem cZ.ext (e:Ext K α H α' H') (p:cZ K g α H E d h):cZ K g α' H' E d h:=fun H2 α2 e2 r=>p H2 α2 (e.trans e2) r
theorem WQ.post (e:Ext K α H α' H') (w:WQ K g ε α H r (aS K g α H Q)):WQ K g ε α' H' r (aS K g α' H' Q):=(w.ext e).mono fun _ _ _ p=>p.ext e
theorem WQ.IF (e:Ext K α H α' H') (w:WQ K g ε α H r (mF K g α H Q)):WQ K g ε α' H' r (mF K g α' H' Q):=(w.ext e).mono fun _ _ _ p=>p.ext e
theorem WQ.yw (e:Ext K α H α' H') (w:WQ K g ε α H r (cZ K g α H E)):WQ K g ε α' H' r (cZ K g α' H' E):=(w.ext e).mono fun _ _ _ p=>p.ext e
theorem tM.use (s:dM K g α H env σ h) (w:WQ K g ε α H (m env h) k)
  (q:∀d h' v H' α',Ext K α H α' H'->dM K g α' H' env σ h'->aJ K g α' H' d v->k d h'->Q v H'):tM K g ε m σ H Q:=
 ⟨α,env,h,s,w.mono fun d h' _ kk v H' α' e r rd=>q d h' v H' α' e (s.ext e r) rd kk⟩
theorem tMT.use (s:dM K g α H env σ h) (w:WQ K g ε α H (m env h) k)
  (q:∀d h' H' α',Ext K α H α' H'->dM K g α' H' env σ h'->k d h'->Q d H'):tMT K g ε m σ H Q:=
 ⟨α,env,h,s,w.mono fun d h' _ kk H' α' e r=>q d h' H' α' e (s.ext e r) kk⟩
theorem tMA.use (s:dM K g α H env σ h) (w:WQ K g ε α H (m env h) k)
  (q:∀d h' v H' α',Ext K α H α' H'->dM K g α' H' env σ h'->ax K g α' H' d v->k d h'->Q v H'):tMA K g ε m σ H Q:=
 ⟨α,env,h,s,w.mono fun d h' _ kk v H' α' e r rd=>q d h' v H' α' e (s.ext e r) rd kk⟩
theorem aS.now (p:aS K g α H Q d h) (r:aU K g α H h) (rd:aJ K g α H d v):Q v H:=p v H α Ext.refl r rd
end
theorem PE.imp (h:PE X e t) (i:∀σ H Q,t' σ H Q->t σ H Q):PE X e t':=fun pins s σ H Q I w=>h pins s σ H Q I (i σ H Q w)
theorem PT.imp (h:PT X e t) (i:∀σ H Q,t' σ H Q->t σ H Q):PT X e t':=fun pins s σ H Q I w=>h pins s σ H Q I (i σ H Q w)
theorem PW.imp (h:PW X e t) (i:∀σ H Q,t' σ H Q->t σ H Q):PW X e t':=fun wh pins s σ H Q I w=>h wh pins s σ H Q I (i σ H Q w)
theorem PA.imp (h:PA X e t) (i:∀σ H Q,t' σ H Q->t σ H Q):PA X e t':=fun p pins s σ H Q I w=>h p pins s σ H Q I (i σ H Q w)
theorem PS.imp (h:PS X e t) (i:∀σ H Q,t' σ H Q->t σ H Q):PS X e t':=fun pins s σ H Q I w=>h pins s σ H Q I (i Q σ H w)
theorem PSs.imp (h:PSs X e t) (i:∀σ H Q,t' σ H Q->t σ H Q):PSs X e t':=fun pins s σ H Q I w=>h pins s σ H Q I (i Q σ H w)
noncomputable def af (i:Nat):ME:=fun env h=>match env[i]? with
 | some (some d)=>.ok d h
 | _=>.bad
noncomputable def cC (d:D):ME:=fun _ h=>.ok d h
noncomputable def ao (f:D->D->Hh->R D) (a b:ME):ME:=fun env h=>(a env h).bind fun x h1=>(b env h1).bind fun y h2=>f x y h2
noncomputable def cUn (f:D->Hh->R D) (a:ME):ME:=fun env h=>(a env h).bind fun x h1=>f x h1
noncomputable def ak:MA:=fun _ h=>.ok [] h
noncomputable def aa (a:ME) (r:MA):MA:=fun env h=>(a env h).bind fun x h1=>(r env h1).bind fun xs h2=>.ok (x::xs) h2
noncomputable def ah (f:List D->Hh->R D) (a:MA):ME:=fun env h=>(a env h).bind fun xs h1=>f xs h1
noncomputable def av (f:D->Hh->R Bool) (a:ME):MT:=fun env h=>(a env h).bind fun x h1=>f x h1
noncomputable def fR (a:MT):MT:=fun env h=>(a env h).bind fun b h1=>.ok (!b) h1
noncomputable def mH (a b:MT):MT:=fun env h=>(a env h).bind fun x h1=>if x=true then b env h1 else .ok false h1
noncomputable def lC (a b:MT):MT:=fun env h=>(a env h).bind fun x h1=>if x=true then .ok true h1 else b env h1
noncomputable def cIf (c:MT) (a b:ME):ME:=fun env h=>(c env h).bind fun x h1=>if x=true then a env h1 else b env h1
noncomputable def asB:D->Hh->R Bool
 | .bl b,h=>.ok b h
 | _,_=>.bad
noncomputable def yG (a b:ME):ME:=fun env h=>(a env h).bind fun x h1=>(asB x h1).bind fun k h2=>if k=true then b env h2 else .ok (.bl false) h2
noncomputable def AN (a:ME):ME:=fun env h=>(a env h).bind fun x h1=>(asB x h1).bind fun k h2=>.ok (.bl (!k)) h2
noncomputable def iJ (f f':D->D->Hh->R D) (a b c:ME):ME:=fun env h=>(a env h).bind fun x h1=>(b env h1).bind fun y h2=>(f x y h2).bind fun z h3=>(asB z h3).bind fun k h4=>
 if k=true then (c env h4).bind fun w h5=>f' y w h5 else .ok (.bl false) h4
noncomputable def eV (K:gV) (g:GG) (ε:EE) (f:D->D->Hh->R D) (r:R2):Prop:=
 ∀α H h a b x y Q , aU K g α H h->aJ K g α H a x->aJ K g α H b y->WQ K g ε α H (f a b h) (aS K g α H Q)->r x y H Q
noncomputable def K2 (K:gV) (g:GG) (ε:EE) (f:D->Hh->R D) (r:V->Hp->VK->Prop):Prop:=
 ∀α H h a x Q , aU K g α H h->aJ K g α H a x->WQ K g ε α H (f a h) (aS K g α H Q)->r x H Q
noncomputable def JR (K:gV) (g:GG) (ε:EE) (f:D->Hh->R Bool) (r:V->Hp->(Bool->Hp->Prop)->Prop):Prop:=
 ∀α H h a x Q , aU K g α H h->aJ K g α H a x->WQ K g ε α H (f a h) (mF K g α H Q)->r x H Q
noncomputable def mj (K:gV) (g:GG) (ε:EE) (f:List D->Hh->R D) (r:List V->Hp->VK->Prop):Prop:=
 ∀α H h a x Q , aU K g α H h->ax K g α H a x->WQ K g ε α H (f a h) (aS K g α H Q)->r x H Q
noncomputable def Kx (K:gV) (g:GG) (ε:EE) (f:D->List D->Hh->R D) (r:V->List V->Hp->VK->Prop):Prop:=
 ∀α H h o a y x Q , aU K g α H h->aJ K g α H o y->ax K g α H a x->WQ K g ε α H (f o a h) (aS K g α H Q)->r y x H Q
section
variable {X:Cx}{g:GG}{ε:EE}{a b c:Expr}{ma mb mc:ME}{pos:Pos}
theorem ae (i:Nat){x:Str}{pos:Pos} (hN:X.N[i]?=some x:=by rfl) (hv:Vis X.env.scope x:=by first | exact SW rfl | exact Tt (SW rfl) | exact Tt (Tt rfl)) (hd:(x == ("__debug__" : Str))=false:=by decide)
  (hcd:(x == ("__classdict__" : Str))=false:=by decide):PE X (.Name x pos) (tM X.K g ε (af i)):=by
 refine PE.imp (AW hN hv hd hcd) fun σ H Q ⟨α,env,h,s,w⟩=>?_
 unfold af at w
 cases e:env[i]? with
 | none=>rw[e] at w;exact w.elim
 | some d=>
  cases d with
  | none=>rw[e] at w;exact w.elim
  | some d=>
   rw[e] at w
   obtain⟨v,hv,rd⟩:=s.vs.vars i d e
   exact⟨v,hv,aS.now w s.heap rd⟩
theorem CA (rd:∀α,aJ X.K g α H d v) (t:tM X.K g ε (cC d) σ H Q):tC v σ H Q:=by
 obtain⟨α,env,h,s,w⟩:=t
 exact aS.now w s.heap (rd α)
theorem aq:PE X (.Constant (.int i) j pos) (tM X.K g ε (cC (.int i))):=PE.imp Gh fun _ _ _ t=>CA (fun _=>.int i) t
theorem eP:PE X (.Constant (.bool i) j pos) (tM X.K g ε (cC (.bl i))):=PE.imp Ji fun _ _ _ t=>CA (fun _=>.bl i) t
theorem fv (hg:Gl X x) (hm:X.mg x=some (.int i t)) (hd:(x == ("__debug__" : Str))=false:=by decide):PE X (.Name x pos) (tM X.K g ε (cC (.int i))):=
 PE.imp (Dp (v:=.int i) hg hm ⟨t,rfl⟩ hd) fun _ _ _ t=>CA (fun _=>.int i) t
theorem rZ {K:gV} (im:eV K g ε f r) (t:tM K g ε (ao f ma mb) σ H Q):tOp r (tM K g ε ma) (tM K g ε mb) σ H Q:=by
 obtain⟨α,env,h,s,w⟩:=t
 refine tM.use s w.bind fun d1 h1 v1 H1 α1 e1 s1 r1 w1=>?_
 refine tM.use s1 (w1.ext e1).bind fun d2 h2 v2 H2 α2 e2 s2 r2 w2=>?_
 exact im α2 H2 h2 d1 d2 v1 v2 Q s2.heap (r1.ext e2) r2 ((w2.ext e2).mono fun _ _ _ p=>p.ext (e1.trans e2))
theorem lY (ho:OpR X (binaryOp op) r) (im:eV X.K g ε f r) (ha:PE X a (tM X.K g ε ma)) (hb:PE X b (tM X.K g ε mb)):PE X (.BinOp a op b pos) (tM X.K g ε (ao f ma mb)):=
 PE.imp (I_ ho ha hb) fun _ _ _ t=>rZ im t
theorem lR (ho:OpR X (compareOp op) r) (im:eV X.K g ε f r) (ha:PE X a (tM X.K g ε ma)) (hb:PE X b (tM X.K g ε mb)) (hm:behindInMarks op b=false):PE X (.Compare a [op] [b] pos) (tM X.K g ε (ao f ma mb)):=
 PE.imp (EC ho ha hb hm) fun _ _ _ t=>rZ im t
theorem wg {K:gV} (ht:∀σ H Q,tM K g ε m σ H Q->t σ H Q) (w:tMT K g ε (av asB m) σ H Q):A8 t σ H Q:=by
 obtain⟨α,env,h,s,w⟩:=w
 refine ht _ _ _ (tM.use s w.bind fun d1 h1 v1 H1 α1 e1 s1 r1 w1=>?_)
 cases r1 with
 | bl k=>exact⟨k,rfl,w1 H1 α1 e1 s1.heap⟩
 | _=>exact w1.elim
theorem bM (ho:OpR X (compareOp op) r) (im:eV X.K g ε f r) (ha:PE X a (tM X.K g ε ma)) (hb:PE X b (tM X.K g ε mb)) (hm:behindInMarks op b=false):PT X (.Compare a [op] [b] pos) (tMT X.K g ε (av asB (ao f ma mb))):=
 PT.imp (EX ho ha hb hm) fun _ _ _ t=>wg (fun _ _ _ u=>rZ im u) t
theorem rE {K:gV} (im:eV K g ε f r) (im':eV K g ε f' r') (t:tM K g ε (iJ f f' ma mb mc) σ H Q):wH r r' (tM K g ε ma) (tM K g ε mb) (tM K g ε mc) σ H Q:=by
 obtain⟨α,env,h,s,w⟩:=t
 refine tM.use s w.bind fun d1 h1 v1 H1 α1 e1 s1 r1 w1=>?_
 refine tM.use s1 (w1.ext e1).bind fun d2 h2 v2 H2 α2 e2 s2 r2 w2=>?_
 refine im α2 H2 h2 d1 d2 v1 v2 _ s2.heap (r1.ext e2) r2 ((w2.ext e2).bind.mono fun z h3 _ w3 v3 H3 α3 e3 hr3 r3=>?_)
 have w4:=w3.bind
 cases r3 with
 | bl k=>
  refine⟨k,rfl,?_⟩
  have s3:=s2.ext e3 hr3
  cases k with
  | true=>
   have w5:WQ K g ε α2 H2 ((mc env h3).bind fun w h5=>f' d2 w h5) _:=w4
   refine tM.use s3 (w5.ext e3).bind fun d4 h4 v4 H4 α4 e4 s4 r4 w6=>?_
   exact im' α4 H4 h4 d2 d4 v2 v4 Q s4.heap (r2.ext (e3.trans e4)) r4 ((w6.ext e4).mono fun _ _ _ p=>p.ext (e1.trans (e2.trans (e3.trans e4))))
  | false=>
   have w5:=w4
   exact w5 _ H3 α3 (e1.trans (e2.trans e3)) s3.heap (.bl false)
 | _=>exact w4.elim
theorem Cb (ho:OpR X (compareOp op) r) (ho':OpR X (compareOp op') r') (im:eV X.K g ε f r) (im':eV X.K g ε f' r') (ha:PE X a (tM X.K g ε ma)) (hb:PE X b (tM X.K g ε mb)) (hc:PE X c (tM X.K g ε mc))
  (hm:lastMarks [op,op'] [b,c]=false:=by with_unfolding_all rfl):PE X (.Compare a [op,op'] [b,c] pos) (tM X.K g ε (iJ f f' ma mb mc)):=PE.imp (BI ho ho' ha hb hc hm) fun _ _ _ t=>rE im im' t
theorem oX (ho:OpR X (compareOp op) r) (ho':OpR X (compareOp op') r') (im:eV X.K g ε f r) (im':eV X.K g ε f' r') (ha:PE X a (tM X.K g ε ma)) (hb:PE X b (tM X.K g ε mb)) (hc:PE X c (tM X.K g ε mc))
  (hm:lastMarks [op,op'] [b,c]=false:=by with_unfolding_all rfl):PT X (.Compare a [op,op'] [b,c] pos) (tMT X.K g ε (av asB (iJ f f' ma mb mc))):=PT.imp (B4 ho ho' ha hb hc hm) fun _ _ _ t=>wg (fun _ _ _ u=>rE im im' u) t
theorem kN {op:UnaryOp}{r:V->Hp->VK->Prop}{f:D->Hh->R D} (ho:UnR X (unaryOp op) r) (im:K2 X.K g ε f r) (ha:PE X a (tM X.K g ε ma)):PE X (.UnaryOp op a pos) (tM X.K g ε (cUn f ma)):=
 PE.imp (IM ho ha) fun σ H Q ⟨α,env,h,s,w⟩=>tM.use s w.bind fun d1 h1 v1 H1 α1 e1 s1 r1 w1=>im α1 H1 h1 d1 v1 Q s1.heap r1 (w1.post e1)
theorem KA (hr:IxR X r) (im:eV X.K g ε f r) (ha:PE X a (tM X.K g ε ma)) (hb:PE X b (tM X.K g ε mb)) (hs:yo b):PE X (.Subscript a b pos) (tM X.K g ε (ao f ma mb)):=
 PE.imp (JV hr ha hb hs) fun _ _ _ t=>rZ im t
theorem dZ {f:D->Hh->R Bool} (im:JR X.K g ε f (fun x H Q=>∃k,ET X.K x H k/\Q k H)) (ha:PE X a (tM X.K g ε ma)) (he:∀whole,isTrue a X.env whole=(do let v ← whole;standAt a.pos;holding [v] (truthy v))):PT X a (tMT X.K g ε (av f ma)):=
 PT.imp (Bx ha he) fun σ H Q ⟨α,env,h,s,w⟩=>tM.use s w.bind fun d1 h1 v1 H1 α1 e1 s1 r1 w1=>im α1 H1 h1 d1 v1 Q s1.heap r1 (w1.IF e1)
theorem gL {mt:MT} (ha:PT X a (tMT X.K g ε mt)):PT X (.UnaryOp .Not a pos) (tMT X.K g ε (fR mt)):=
 PT.imp (Hm ha) fun σ H Q ⟨α,env,h,s,w⟩=>tMT.use s w.bind fun d1 h1 H1 α1 e1 s1 w1=>w1 H1 α1 e1 s1.heap
end
section
variable {X:Cx}{g:GG}{ε:EE}{a b c e:Expr}{es:List Expr}{rest:List Expr}{ma mb mc me:ME}{mt mu:MT}{pos:Pos}
theorem r9 (ha:PT X a (tMT X.K g ε mt)):PW X (.BoolOp .And [a] pos) (tMT X.K g ε mt):=pw_and1 ha
theorem lQ (ha:PT X a (tMT X.K g ε mt)):PW X (.BoolOp .Or [a] pos) (tMT X.K g ε mt):=pw_or1 ha
theorem xS (ha:PT X a (tMT X.K g ε mt)) (hb:PW X (.BoolOp .And (b::rest) pos) (tMT X.K g ε mu)):PW X (.BoolOp .And (a::b::rest) pos) (tMT X.K g ε (mH mt mu)):=
 PW.imp (pw_and ha hb) fun σ H Q ⟨α,env,h,s,w⟩=>tMT.use s w.bind fun d1 h1 H1 α1 e1 s1 w1=>by
  cases d1 with
  | true=>rw[if_pos rfl] at w1 ⊢;exact tMT.use s1 (w1.ext e1) fun d2 h2 H2 α2 e2 s2 w2=>w2 H2 α2 (e1.trans e2) s2.heap
  | false=>rw[if_neg Oc] at w1 ⊢;exact w1 H1 α1 e1 s1.heap
theorem rq (ha:PT X a (tMT X.K g ε mt)) (hb:PW X (.BoolOp .Or (b::rest) pos) (tMT X.K g ε mu)):PW X (.BoolOp .Or (a::b::rest) pos) (tMT X.K g ε (lC mt mu)):=
 PW.imp (pw_or ha hb) fun σ H Q ⟨α,env,h,s,w⟩=>tMT.use s w.bind fun d1 h1 H1 α1 e1 s1 w1=>by
  cases d1 with
  | true=>rw[if_pos rfl] at w1 ⊢;exact w1 H1 α1 e1 s1.heap
  | false=>rw[if_neg Oc] at w1 ⊢;exact tMT.use s1 (w1.ext e1) fun d2 h2 H2 α2 e2 s2 w2=>w2 H2 α2 (e1.trans e2) s2.heap
theorem gu (hc:PT X c (tMT X.K g ε mt)) (ha:PE X a (tM X.K g ε ma)) (hb:PE X b (tM X.K g ε mb)):PE X (.IfExp c a b pos) (tM X.K g ε (cIf mt ma mb)):=
 PE.imp (CN hc ha hb) fun σ H Q ⟨α,env,h,s,w⟩=>tMT.use s w.bind fun d1 h1 H1 α1 e1 s1 w1=>by
  cases d1 with
  | true=>rw[if_pos rfl] at w1 ⊢;exact tM.use s1 (w1.ext e1) fun d2 h2 v2 H2 α2 e2 s2 r2 w2=>w2 v2 H2 α2 (e1.trans e2) s2.heap r2
  | false=>rw[if_neg Oc] at w1 ⊢;exact tM.use s1 (w1.ext e1) fun d2 h2 v2 H2 α2 e2 s2 r2 w2=>w2 v2 H2 α2 (e1.trans e2) s2.heap r2
theorem C_ (h:PE X a (tM X.K g ε ma)):PE X (.BoolOp op [a] pos) (tM X.K g ε ma):=Hz h
theorem BP {K:gV}{k:β->Hh->Prop} (r:aJ K g α1 H1 d v) (w:WQ K g ε α H ((asB d h).bind f) k):∃b,v=.bl b/\d=.bl b/\WQ K g ε α H (f b h) k:=by
 cases r with
 | bl b=>exact⟨b,rfl,rfl,w⟩
 | _=>exact w.elim
theorem CH (ha:PE X a (tM X.K g ε ma)) (hb:PE X (.BoolOp .And (b::rest) pos) (tM X.K g ε mb)):PE X (.BoolOp .And (a::b::rest) pos) (tM X.K g ε (yG ma mb)):=
 PE.imp (Ij ha hb) fun σ H Q ⟨α,env,h,s,w⟩=>tM.use s w.bind fun d1 h1 v1 H1 α1 e1 s1 r1 w1=>by
  obtain⟨k,rfl,rfl,w2⟩:=BP r1 w1
  refine⟨k,rfl,?_⟩
  cases k with
  | true=>rw[if_pos rfl] at w2 ⊢;exact tM.use s1 (w2.ext e1) fun d2 h2 v2 H2 α2 e2 s2 r2 w2=>w2 v2 H2 α2 (e1.trans e2) s2.heap r2
  | false=>rw[if_neg Oc] at w2 ⊢;exact w2 _ H1 α1 e1 s1.heap (.bl false)
theorem Hu (ha:PE X a (tM X.K g ε ma)):PE X (.UnaryOp .Not a pos) (tM X.K g ε (AN ma)):=
 PE.imp (HZ ha) fun σ H Q ⟨α,env,h,s,w⟩=>tM.use s w.bind fun d1 h1 v1 H1 α1 e1 s1 r1 w1=>by
  obtain⟨k,rfl,rfl,w2⟩:=BP r1 w1
  exact⟨k,rfl,w2 _ H1 α1 e1 s1.heap (.bl _)⟩
variable {mr:MA}
theorem ai:PA X [] (tMA X.K g ε ak):=PA.imp nK fun σ H Q ⟨α,env,h,s,w⟩=>w [] H α Ext.refl s.heap .nil
theorem Eh (ha:PE X e (tM X.K g ε ma)) (hr:PA X es (tMA X.K g ε mr)) (hs:starEach (e::es) X.env=(false,eval e X.env)::starEach es X.env:=by rfl):PA X (e::es) (tMA X.K g ε (aa ma mr)):=
 PA.imp (jG ha hr hs) fun σ H Q ⟨α,env,h,s,w⟩=>tM.use s w.bind fun d1 h1 v1 H1 α1 e1 s1 r1 w1=>tMA.use s1 (w1.ext e1).bind fun d2 h2 v2 H2 α2 e2 s2 r2 w2=>w2 _ H2 α2 (e1.trans e2) s2.heap (.cons (r1.ext e2) r2)
noncomputable def gG:List D->Hh->R D:=fun ds h=>if ds.length<=1000000 then .ok (.tup ds) h else .bad
theorem aS.tup {K:gV}{α:List Addr}{H:Hp}{h:Hh}{ds:List D}{vs:List V}{Q:VK}{p:Addr} (w:aS K g α H Q (.tup ds) h) (r:aU K g α H h) (rd:ax K g α H ds vs) (n:H p=none):Q (.ref p) (upd H p (.tup vs)):=
 w _ _ α (Ext.fresh n) (r.grow n) (.tup bH (rd.ext (Ext.fresh n)))
theorem WQ.gj {K:gV}{α:List Addr}{H:Hp}{β:Type}{c:Prop} [Decidable c]{r:R β}{k:β->Hh->Prop} (w:WQ K g ε α H (if c then r else .bad) k):c/\WQ K g ε α H r k:=by
 by_cases h:c
 ·simp_all
 ·rw[if_neg h] at w;exact w.elim
theorem iC (h:n<=1000000):n<=sizeLine:=by rw[O5];lia
theorem Hk {x1} (ha:PA X es (tMA X.K g ε mr)):PE X (.Tuple es x1 pos) (tM X.K g ε (ah gG mr)):=
 PE.imp (Ge ha) fun σ H Q ⟨α,env,h,s,w⟩=>tMA.use s w.bind fun d1 h1 v1 H1 α1 e1 s1 r1 w1=>by
  obtain⟨hl,w2⟩:=WQ.gj w1
  exact⟨iC (by rw[<- r1.length];exact hl),fun p hp=>aS.tup (aS.ext e1 w2) s1.heap r1 hp⟩
theorem wG {K:gV} (im:mj K g ε f r) (t:tM K g ε (ah f mr) σ H Q):tCB r (tMA K g ε mr) σ H Q:=by
 obtain⟨α,env,h,s,w⟩:=t
 exact tMA.use s w.bind fun d1 h1 v1 H1 α1 e1 s1 r1 w1=>im α1 H1 h1 d1 v1 Q s1.heap r1 (w1.post e1)
theorem aD {id:String}{p:Pos} (hc:cb X (.builtin id) r) (im:mj X.K g ε f r) (hg:Gl X x) (hm:X.mg x=none) (hv:bootBuiltins x=some (.builtin id)) (ha:PA X (e::es) (tMA X.K g ε mr)) (hn:x≠"__name__" := by decide) (hdb:(x == ("__debug__" : Str))=false:=by decide)
  (he:starEach (e::es) X.env=(false,eval e X.env)::starEach es X.env:=by rfl) (hpl:(backTo pos (starEach es X.env)).any (·.1)=false:=by rfl):PE X (.Call (.Name x p) (e::es) [] pos) (tM X.K g ε (ah f mr)):=
 PE.imp (nN hc hg hm hv ha hn hdb he hpl) fun _ _ _ t=>wG im t
theorem g_ {id:String}{p:Pos} (hc:cb X (.type id) r) (im:mj X.K g ε f r) (hg:Gl X x) (hm:X.mg x=none) (hv:bootBuiltins x=some (.type id)) (ha:PA X (e::es) (tMA X.K g ε mr)) (hn:x≠"__name__" := by decide) (hdb:(x == ("__debug__" : Str))=false:=by decide)
  (he:starEach (e::es) X.env=(false,eval e X.env)::starEach es X.env:=by rfl) (hpl:(backTo pos (starEach es X.env)).any (·.1)=false:=by rfl):PE X (.Call (.Name x p) (e::es) [] pos) (tM X.K g ε (ah f mr)):=
 PE.imp (jF hc hg hm hv ha hn hdb he hpl) fun _ _ _ t=>wG im t
end
noncomputable def aQ:MS:=fun env h=>.ok (.nx env) h
noncomputable def Dy:MS:=fun env h=>.ok (.bk env) h
noncomputable def ay (a b:MS):MS:=fun env h=>(a env h).bind fun fl h1=>match fl with
 | .nx e=>b e h1
 | fl=>.ok fl h1
noncomputable def dA (a:ME):MS:=fun env h=>(a env h).bind fun _ h1=>.ok (.nx env) h1
noncomputable def aM (a:ME):MS:=fun env h=>(a env h).bind fun d h1=>.ok (.rt d) h1
noncomputable def bP (c:MT) (a b:MS):MS:=fun env h=>(c env h).bind fun x h1=>if x=true then a env h1 else b env h1
noncomputable def aX (i:Nat) (a:ME):MS:=fun env h=>(a env h).bind fun d h1=>.ok (.nx (env.set i (some d))) h1
noncomputable def zU (i:Nat) (f:D->D->Hh->R D) (a:ME):MS:=fun env h=>(af i env h).bind fun x h0=>(a env h0).bind fun y h1=>(f x y h1).bind fun z h2=>.ok (.nx (env.set i (some z))) h2
noncomputable def sj (f:D->D->D->Hh->R Unit) (o i v:ME):MS:=fun env h=>(v env h).bind fun x h1=>(o env h1).bind fun y h2=>(i env h2).bind fun z h3=>(f y z x h3).bind fun _ h4=>.ok (.nx env) h4
noncomputable def C0:MS:=fun _ _=>.bad
section
variable {X:Cx}{g:GG}{ε:EE}{e:Expr}{me:ME}{ms mu:MS}{mt:MT}{st:Stmt}{rest:List Stmt}{pos:Pos}
theorem dM.nx {K:gV} (s:dM K g α' H' env σ h') (e:Ext K α H α' H') (w:cZ K g α H E (.nx env) h'):E.nx σ H':=w H' α' e s.heap σ s.vs
theorem aW:PSs X [] (tMS X.K g ε aQ):=PSs.imp EW fun E σ H ⟨α,env,h,s,w⟩=>s.nx Ext.refl w
theorem KN:PS X (.Break pos) (tMS X.K g ε Dy):=PS.imp B7 fun E σ H ⟨α,env,h,s,w⟩=>(show cZ X.K g α H E (.bk env) h from w) H α Ext.refl s.heap σ s.vs
theorem tMS.use {K:gV} (s:dM K g α H env σ h) (w:WQ K g ε α H (m env h) k)
  (q:∀fl h' H' α',Ext K α H α' H'->aU K g α' H' h'->k fl h'->match fl with
   | .nx e=>∀σ',dM K g α' H' e σ' h'->E.nx σ' H'
   | .bk e=>∀σ',dM K g α' H' e σ' h'->E.bk σ' H'
   | .ct e=>∀σ',dM K g α' H' e σ' h'->E.ct σ' H'
   | .rt d=>∀v,aJ K g α' H' d v->E.rt v H'):tMS K g ε m E σ H:=
 ⟨α,env,h,s,w.mono fun fl h' _ kk H' α' e r=>by
  have:=q fl h' H' α' e r kk
  cases fl with
  | nx e=>exact fun σ' v=>this σ' ⟨r,v⟩
  | bk e=>exact fun σ' v=>this σ' ⟨r,v⟩
  | ct e=>exact fun σ' v=>this σ' ⟨r,v⟩
  | rt d=>lia⟩
theorem E8 (h1:PS X st (tMS X.K g ε ms)) (h2:PSs X rest (tMS X.K g ε mu)):PSs X (st::rest) (tMS X.K g ε (ay ms mu)):=
 PSs.imp (BB h1 h2) fun E σ H ⟨α,env,h,s,w⟩=>tMS.use s w.bind fun fl h' H' α' e r kk=>by
  cases fl with
  | nx env'=>exact fun σ' s'=>⟨α',env',h',s',WQ.yw e kk⟩
  | bk env'=>exact fun σ' s'=>(show cZ X.K g α H E (.bk env') h' from kk) H' α' e r σ' s'.vs
  | ct env'=>exact fun σ' s'=>(show cZ X.K g α H E (.ct env') h' from kk) H' α' e r σ' s'.vs
  | rt d=>exact fun v rv=>(show cZ X.K g α H E (.rt d) h' from kk) H' α' e r v rv
theorem Ii (h1:PS X st (tMS X.K g ε ms)):PSs X [st] (tMS X.K g ε ms):=Dq h1
theorem dh (he:PE X e (tM X.K g ε me)) (hs:swapsWith e none pos.line X.env=pure false:=by rfl):PS X (.Expr e pos) (tMS X.K g ε (dA me)):=
 PS.imp (Ef he hs) fun E σ H ⟨α,env,h,s,w⟩=>tM.use s w.bind fun d1 h1 v1 H1 α1 e1 s1 r1 w1=>s1.nx e1 w1
theorem Jz (he:PE X e (tM X.K g ε me)):PS X (.Return (some e) pos) (tMS X.K g ε (aM me)):=
 PS.imp (HQ he) fun E σ H ⟨α,env,h,s,w⟩=>tM.use s w.bind fun d1 h1 v1 H1 α1 e1 s1 r1 w1=>(show cZ X.K g α H E (.rt d1) h1 from w1) H1 α1 e1 s1.heap v1 r1
theorem eI {c:Expr}{A B:List Stmt} (hc:PT X c (tMT X.K g ε mt)) (ha:PSs X A (tMS X.K g ε ms)) (hb:PSs X B (tMS X.K g ε mu)):PS X (.If c A B pos) (tMS X.K g ε (bP mt ms mu)):=
 PS.imp (KQ hc ha hb) fun E σ H ⟨α,env,h,s,w⟩=>tMT.use s w.bind fun d1 h1 H1 α1 e1 s1 w1=>by
  cases d1 with
  | true=>rw[if_pos rfl] at w1 ⊢;exact⟨α1,env,h1,s1,WQ.yw e1 w1⟩
  | false=>rw[if_neg Oc] at w1 ⊢;exact⟨α1,env,h1,s1,WQ.yw e1 w1⟩
theorem IS {i:Nat}{x:Str}{pos':Pos} (hN:X.N.Nodup) (hi:X.N[i]?=some x) (hx:Loc X.env.scope x) (he:PE X e (tM X.K g ε me)) (hs:swapsWith e (some (.Name x pos')) pos.line X.env=pure false:=by rfl) (hf:X.fn x=true\/X.env.scope.names.lookup x=some .local:=by first | exact .inl rfl | exact .inr rfl | assumption) :
  PS X (.Assign [.Name x pos'] e pos) (tMS X.K g ε (aX i me)):=
 PS.imp (Hx hN hi hx he hs hf) fun E σ H ⟨α,env,h,s,w⟩=>tM.use s w.bind fun d1 h1 v1 H1 α1 e1 s1 r1 w1=>(show cZ X.K g α H E (.nx (env.set i (some d1))) h1 from w1) H1 α1 e1 s1.heap _ (s1.vs.set r1)
theorem F0 {i:Nat}{x:Str}{op:TV}{ti:TIp}{f:D->D->Hh->R D}{pos':Pos} (hN:X.N.Nodup) (hi:X.N[i]?=some x) (hx:Loc X.env.scope x) (he:PE X e (tM X.K g ε me)) (ho:PIp X op ti) (im:eV X.K g ε f ti) (hf:X.fn x=true\/X.env.scope.names.lookup x=some .local:=by first | exact .inl rfl | exact .inr rfl | assumption) :
  PS X (.AugAssign (.Name x pos') op e pos) (tMS X.K g ε (zU i f me)):=
 PS.imp (Hy hN hi hx he ho hf) fun E σ H ⟨α,env,h,s,w⟩=>by
  have w0:=w.bind
  unfold af at w0
  cases ei:env[i]? with
  | none=>rw[ei] at w0;exact w0.elim
  | some d=>
   cases d with
   | none=>rw[ei] at w0;exact w0.elim
   | some d=>
    rw[ei] at w0
    have w1:=w0
    obtain⟨v,hv,rd⟩:=s.vs.vars i d ei
    refine⟨v,hv,tM.use s w1.bind fun d1 h1 v1 H1 α1 e1 s1 r1 w2=>?_⟩
    refine im α1 H1 h1 d d1 v v1 _ s1.heap (rd.ext e1) r1 ((w2.ext e1).bind.mono fun z h2 _ w3 v3 H3 α3 e3 hr3 r3=>?_)
    exact(show cZ X.K g α H E (.nx _) h2 from w3) H3 α3 (e1.trans e3) hr3 _ ((s1.vs.ext e3).set r3)
noncomputable def JP (K:gV) (g:GG) (ε:EE) (f:D->D->D->Hh->R Unit) (t:xF):Prop:=
 ∀α H h o i v x y z Q , aU K g α H h->aJ K g α H o x->aJ K g α H i y->aJ K g α H v z->WQ K g ε α H (f o i v h) (fun _ h'=>∀H' α',Ext K α H α' H'->aU K g α' H' h'->Q H')->t x y z H Q
theorem yM {o i:Expr}{mo mi:ME}{t:xF}{f:D->D->D->Hh->R Unit}{p:Pos} (he:PE X e (tM X.K g ε me)) (ho:PE X o (tM X.K g ε mo)) (hi:PE X i (tM X.K g ε mi)) (hp:Ee X t) (im:JP X.K g ε f t)
  (ha:∀v,assign (.Subscript o i p) X.env v=(do
   let ov ← holding [v] (eval o X.env)
   let iv ← holding [v,ov] (eval i X.env)
   standAt p
   holding [v,ov,iv] (setItem ov iv v)
   release [v,ov,iv] []):=by intro _;rfl)
  (hs:swapsWithSole [.Subscript o i p] e pos.line X.env=pure false:=by rfl) (hw:swappedStores [.Subscript o i p] e X.env=pure none:=by rfl)
  (h1:(assignEach [.Subscript o i p] X.env).map (·.2)=[assign (.Subscript o i p) X.env]:=by rfl):PS X (.Assign [.Subscript o i p] e pos) (tMS X.K g ε (sj f mo mi me)):=
 PS.imp (CP he (He ho hi hp ha) hs hw h1) fun E σ H ⟨α,env,h,s,w⟩=>tM.use s w.bind fun d1 h1 v1 H1 α1 e1 s1 r1 w1=>tM.use s1 (w1.ext e1).bind fun d2 h2 v2 H2 α2 e2 s2 r2 w2=>tM.use s2 (w2.ext e2).bind fun d3 h3 v3 H3 α3 e3 s3 r3 w3=>by
  refine im α3 H3 h3 d2 d3 d1 v2 v3 v1 _ s3.heap (r2.ext e3) r3 ((r1.ext e2).ext e3) ((w3.ext e3).bind.mono fun _ h4 _ w4 H4 α4 e4 hr4=>?_)
  exact(show cZ X.K g α H E (.nx env) h4 from w4) H4 α4 (e1.trans (e2.trans (e3.trans e4))) hr4 _ (s3.vs.ext e4)
end
theorem ye {σ:St} (I:Inv X pins σ H s) (h:H p=some u) (mu:Mut (some u)):∃o,Inv X pins σ (upd H p (.frz o u)) s:=by
 obtain⟨o,ho⟩:∃o,s.heap.get? p=some o:=by
  cases e:s.heap.get? p with
  | some o=>simp
  | none=>
   have q:=I.hok p _ h
   cases u with
   | lst xs=>obtain⟨_,_,_,_,e'⟩:=q;simp_all
   | dK kvs=>obtain⟨_,_,_,_,o,_,_,e',_⟩:=q;simp_all
   | dT kvs=>obtain⟨_,_,_,_,o,_,_,e',_⟩:=q;simp_all
   | set S n=>obtain⟨o,_,_,_,e',_⟩:=q;simp_all
   | ins C dx fs=>obtain⟨_,_,_,e',_⟩:=q;simp_all
   | ext φ=>obtain⟨_,⟨_,e'⟩,_⟩:=q;simp_all
   | _=>exact absurd mu (fun z=>z)
 have nt:∀b xs,H b=some (.tup xs)->b≠p:=fun b xs e z=>by subst z;rw[h] at e;cases e;exact mu
 have nf:∀b o u,H b=some (.frz o u)->b≠p:=fun b o u e z=>by subst z;rw[h] at e;cases e;exact mu
 have nb:∀b ps,H b=some (.tbl ps)->b≠p:=fun b ps e z=>by subst z;rw[h] at e;cases e;exact mu
 have no:∀b y,H b=some (.own y)->b≠p:=fun b ps e z=>by subst z;rw[h] at e;cases e;exact mu
 have hok:HOk X.prog X.w (upd H p (.frz o u)) s.heap:=fun b v q=>by
  by_cases hb:b=p
  ·subst hb
   rw[bH] at q;cases q
   exact⟨ho,(I.hok b _ h).lU (fun _ _ _ z=>z) (fun c z=>by rw[aN (no c _ z)];exact z) fun c xs z=>by rw[aN (nt c xs z)];exact z⟩
  ·rw[aN hb] at q
   exact(I.hok b v q).lU (fun _ _ _ z=>z) (fun c z=>by rw[aN (no c _ z)];exact z) fun c xs z=>by rw[aN (nt c xs z)];exact z
 refine⟨o,?_⟩
 have np:∀b,H b=none->b≠p:=fun b e z=>by simp_all
 have:=I.un (t':=s.toks) ⟨fun b o q _ _ _=>q,fun b o q _ _ _=>⟨o.slots,q⟩,fun b v q n _=>(by rw[aN (np b n)];exact n),fun b o q _=>⟨o,q⟩,fun b xs q=>(by rw[aN (nt b xs q)];exact q),fun b o v q=>(by rw[aN (nf b o v q)];exact q),fun b ps q=>⟨#[],by rw[aN (nb b ps q),q];simp⟩⟩ hok
 omega
noncomputable def jg (Q:VK):VK:=fun v H=>Q v H\/∃p u,v=.ref p/\H p=some u/\Mut (some u)/\∀o,Q v (upd H p (.frz o u))
theorem EP.frz (h:EP X pins σ (jg Q) u s'):EP X pins σ Q u s':=by
 obtain⟨v,H',I,r,q | ⟨p,u,rfl,e,m,q⟩⟩:=h
 ·exact⟨v,H',I,r,q⟩
 ·obtain⟨o,I'⟩:=ye I e m
  exact⟨_,_,I',r,q o⟩
theorem PE.frz (h:PE X e t):PE X e fun σ H Q=>t σ H (jg Q):=fun pins s σ H Q I w=>thn (h pins s σ H _ I w) fun _ _ z=>EP.frz z
theorem OpR.frz (h:OpR X f r):OpR X f fun x y H Q=>r x y H (jg Q):=fun pins s σ H x y v u Q I rx ry q=>thn (h pins s σ H x y v u _ I rx ry q) fun _ _ z=>EP.frz z
theorem cb.frz (h:cb X f r):cb X f fun xs H Q=>r xs H (jg Q):=fun pins s σ H xs us Q I rx q=>thn (h pins s σ H xs us _ I rx q) fun _ _ z=>EP.frz z
noncomputable def Kw (D:Ends):Ends:={ D with nx:=fun σ H=>D.nx σ H\/∃p u,H p=some u/\Mut (some u)/\∀o,D.nx σ (upd H p (.frz o u)) }
theorem PS.frz {st:Stmt}{t:TS} (h:PS X st t):PS X st fun E σ H=>t (Kw E) σ H:=fun pins s σ H E I w=>thn (h pins s σ H _ I w) fun fl s' z=>by
 cases fl with
 | next=>
  obtain⟨σ',H',I,q | ⟨p,u,e,m,q⟩⟩:=z
  ·exact⟨σ',H',I,q⟩
  ·obtain⟨o,I'⟩:=ye I e m
   exact⟨σ',_,I',q o⟩
 | brk=>exact z
 | cont=>exact z
 | ret u=>exact z
theorem Eg {σ:St} (z:jg (fun v H1=>E.nx (σ.set i (some v)) H1) v H1):(Kw E).nx (σ.set i (some v)) H1:=by
 rcases z with z | ⟨p,u,_,e,m,q⟩
 ·exact .inl z
 ·exact .inr ⟨p,u,e,m,q⟩
noncomputable abbrev NL:=List D->Hh->R D
noncomputable def qu:NL:=fun ys h2=>.ok (.ref h2.length) (h2++[O.lst ys])
noncomputable def aF:NL:=fun ys h2=>.ok (.frl ys) h2
class ky (nl:NL):Prop where
 at':∀{K:gV} {g:GG} {ε:EE} {α1 α2:List Addr} {H1 H2:Hp} {h:Hh} {as:List D} {ys:List V} {acc:Addr} {Q:D->Hh->Prop} {R:VK},WQ K g ε α1 H1 (nl as h) Q->(∀d h',Q d h'->aS K g α1 H1 R d h')->Ext K α1 H1 α2 H2->aU K g α2 H2 h->ax K g α2 H2 as ys->H2 acc=some (.lst ys)->acc∉α2->H1 acc=none->jg R (.ref acc) H2
instance:ky qu where
 at':=fun{K g ε α1 α2 H1 H2 h as ys acc Q R} w hq x2 hr2 ra ha hna hacc=>by
  have x3:Ext K α1 H1 (α2++[acc]) H2:=⟨x2.toEx0.trans (Ex0.refl.more _),x2.kept,fun p z n=>by
   rcases Oe.mp z with z | z
   ·exact x2.new p z n
   ·rw[NY.mp z];exact hacc⟩
  refine .inl (hq _ _ w _ H2 (α2++[acc]) x3 (hr2.adopt hna ⟨ys,ha,ra.ex0 (Ex0.refl.more _)⟩) (.ref ?_))
  rw[<- hr2.len,NR (NC _)];simp
instance:ky aF where
 at':=fun{K g ε α1 α2 H1 H2 h as ys acc Q R} w hq x2 hr2 ra ha hna hacc=>by
  refine .inr ⟨acc,_,rfl,ha,trivial,fun o=>?_⟩
  have soft:EA H2 acc:=.inr ⟨_,ha,fun _ z=>(nomatch z),fun _ _ z=>(nomatch z),fun _ z=>nomatch z⟩
  have x6:Ex0 K α2 H2 α2 (upd H2 acc (.frz o (.lst ys))):=Ex0.upd soft
  refine hq _ _ w _ _ α2 ⟨x2.toEx0.trans x6,fun p u z n nt=>?_,x2.new⟩ (hr2.off soft hna) (.frl ⟨o,bH⟩ (ra.ex0 x6))
  rw[aN (bh z hacc)];exact x2.kept p u z n nt
theorem NL.post [ky nl]{K:gV}{g:GG}{ε:EE}{α:List Addr}{H:Hp}{h:Hh}{ds:List D}{vs:List V}{Q:VK}{p:Addr} (w:WQ K g ε α H (nl ds h) (aS K g α H Q)) (r:aU K g α H h) (rd:ax K g α H ds vs) (n:H p=none):jg Q (.ref p) (upd H p (.lst vs)):=
 ky.at' w (fun _ _ z=>z) (Ext.fresh n) (r.grow n) (rd.ext (Ext.fresh n)) bH (r.free n) n
noncomputable def eX (nl:NL):List D->Hh->R D:=fun ds h=>if ds.length<=1000000 then nl ds h else .bad
theorem Ic {X:Cx}{g:GG}{ε:EE}{es:List Expr}{mr:MA}{pos:Pos}{nl:NL} [ky nl] (ha:PA X es (tMA X.K g ε mr)):PE X (.List es pos) (tM X.K g ε (ah (eX nl) mr)):=
 PE.imp (PE.frz (GZ ha)) fun σ H Q ⟨α,env,h,s,w⟩=>tMA.use s w.bind fun d1 h1 v1 H1 α1 e1 s1 r1 w1=>by
  obtain⟨hl,w2⟩:=WQ.gj w1
  exact⟨iC (by rw[<- r1.length];exact hl),fun p hp=>NL.post (w2.post e1) s1.heap r1 hp⟩
noncomputable def aH (h:Hh) (n:Nat):Option (List D):=match h[n]? with
 | some (.lst ds)=>some ds
 | _=>none
inductive Src where
 | snap (ds:List D)
 | live (n:Nat)
 | liveE (n:Nat)
noncomputable abbrev MI:=En->Hh->R Src
noncomputable abbrev Rdr:=Hh->Nat->Option (Option D)
noncomputable def Src.rdr:Src->Rdr
 | .snap ds=>fun _ i=>some ds[i]?
 | .live n=>fun h i=>(aH h n).map fun ds=>ds[i]?
 | .liveE n=>fun h i=>(aH h n).map fun ds=>(ds[i]?).map fun d=>D.tup [.int i,d]
noncomputable def Src.fuel (s:Src) (h:Hh):Nat:=match s with
 | .snap ds=>ds.length
 | .live n=>((aH h n).getD []).length
 | .liveE n=>((aH h n).getD []).length
noncomputable def Reads (K:gV) (g:GG) (J:It) (rd:Rdr) (α₀:List Addr) (aG:Hp):Prop:=
 ∀α H h , Ext K α₀ aG α H->aU K g α H h->∀i,match rd h i with
  | none=>True
  | some none=>J.stop i H
  | some (some d)=>J.go i H/\∀x H',J.yld i H x H'->∃α',Ext K α H α' H'/\aU K g α' H' h/\aJ K g α' H' d x
noncomputable def tMI (K:gV) (g:GG) (ε:EE) (m:MI):TI:=fun σ H T=>∃α env h,dM K g α H env σ h/\WQ K g ε α H (m env h) fun sr h'=>∀J H' α',Ext K α H α' H'->aU K g α' H' h'->Reads K g J sr.rdr α' H'->T J H'
theorem PI.imp (h:PI X tg e t) (i:∀σ H Q,t' σ H Q->t σ H Q):PI X tg e t':=fun pins s σ H Q I w=>h pins s σ H Q I (i σ H Q w)
noncomputable def lS (rd:Rdr) (tg:D->En->Hh->R En) (body:MS):Nat->Nat->En->Hh->R Fl
 | k,i,env,h=>match rd h i with
  | none=>.bad
  | some none=>.ok (.nx env) h
  | some (some d)=>match k with
   | 0=>.bad
   | k+1=>(tg d env h).bind fun e1 h1=>(body e1 h1).bind fun fl h2=>match fl with
    | .nx e=>lS rd tg body k (i+1) e h2
    | .ct e=>lS rd tg body k (i+1) e h2
    | .bk e=>.ok (.nx e) h2
    | .rt d=>.ok (.rt d) h2
noncomputable def eM (tg:D->En->Hh->R En) (body:MS):List D->En->Hh->R Fl
 | [],env,h=>.ok (.nx env) h
 | d::ds,env,h=>(tg d env h).bind fun e1 h1=>(body e1 h1).bind fun fl h2=>match fl with
  | .nx e=>eM tg body ds e h2
  | .ct e=>eM tg body ds e h2
  | .bk e=>.ok (.nx e) h2
  | .rt d=>.ok (.rt d) h2
theorem DU (tg:D->En->Hh->R En) (body:MS) (all:List D):∀(ds:List D) (i:Nat) (env:En) (h:Hh),all.drop i=ds->lS (Src.snap all).rdr tg body ds.length i env h=eM tg body ds env h:=by
 intro ds
 induction ds with
 | nil=>
  intro i env h e
  have:all[i]?=none:=by
   simp_all
  unfold lS eM Src.rdr
  grind
 | cons d ds ih=>
  intro i env h e
  have h0:all[i]?=some d:=by
   have:=congrArg (fun l=>l[0]?) e
   grind
  have h1:all.drop (i+1)=ds:=by
   have:=congrArg List.tail e
   simpa using this
  unfold lS eM
  have:(Src.snap all).rdr h i=some (some d):=by unfold Src.rdr;simp[h0]
  simp_all
noncomputable def eN (mi:MI) (tg:D->En->Hh->R En) (body:MS):MS:=fun env h=>(mi env h).bind fun sr h1=>match sr with
 | .snap ds=>eM tg body ds env h1
 | .live n=>lS (Src.live n).rdr tg body ((aH h1 n).getD []).length 0 env h1
 | .liveE n=>lS (Src.liveE n).rdr tg body ((aH h1 n).getD []).length 0 env h1
theorem Ed:eN mi tg body env h=(mi env h).bind fun sr h1=>lS sr.rdr tg body (sr.fuel h1) 0 env h1:=by
 unfold eN
 congr 1
 funext sr h1
 cases sr with
 | snap ds=>exact(DU tg body ds ds 0 env h1 rfl).symm
 | live n=>rfl
 | liveE n=>rfl
noncomputable def gN (i:Nat):D->En->Hh->R En:=fun d env h=>.ok (env.set i (some d)) h
noncomputable def gT2 (i j:Nat):D->En->Hh->R En:=fun d env h=>match d with
 | .tup [x,y]=>.ok ((env.set i (some x)).set j (some y)) h
 | _=>.bad
noncomputable def Ga (K:gV) (g:GG) (ε:EE) (tg:D->En->Hh->R En) (t:TG):Prop:=
 ∀α H h env σ d x Q , dM K g α H env σ h->aJ K g α H d x →
  WQ K g ε α H (tg d env h) (fun e1 h1=>∀σ' H' α',Ext K α H α' H'->dM K g α' H' e1 σ' h1->Q σ' H')->t x σ H Q
theorem d9 {K:gV}:Ga K g ε (gN i) (iZ i):=fun α H h env σ d x Q s r w=>w _ H α Ext.refl ⟨s.heap,s.vs.set r⟩
theorem xx {K:gV}:Ga K g ε (gT2 i j) (Jw K 2 (CZ (iZ i) (CZ (iZ j) Jp))):=fun α H h env σ d x Q s r w=>by
 cases r with
 | tup hq rs=>
  cases rs with
  | nil=>exact w.elim
  | cons ra rr=>
   cases rr with
   | nil=>exact w.elim
   | cons rb rr=>
    cases rr with
    | nil=>exact⟨_,_,rfl,SqT.of hq,rfl,_,_,rfl,_,_,rfl,rfl,w _ H α Ext.refl ⟨s.heap,(s.vs.set ra).set rb⟩⟩
    | cons _ _=>exact w.elim
 | _=>exact w.elim
section
variable {X:Cx}{g:GG}{ε:EE}
theorem gw {tg iter:Expr}{body:List Stmt}{mi:MI}{t:TG}{fg:D->En->Hh->R En}{mb:MS}{pos:Pos} (hp:Tr (model X.prog X.w) X.A X.env X.xe) (hc:X.calm=true) (hi:PI X tg iter (tMI X.K g ε mi)) (hg:PG X tg t) (ig:Ga X.K g ε fg t) (hb:PSs X body (tMS X.K g ε mb))
  (hs:∀x,foldedSetIterable iter X.env x=pure x:=by intro _;rfl):PS X (.For tg iter body [] pos) (tMS X.K g ε (eN mi fg mb)):=by
 refine PS.imp (G9 hp hc hi hg hb hs) fun E σ H ⟨α,env,h,s,w⟩=>?_
 rw[Ed] at w
 refine⟨α,env,h,s,w.bind.mono fun sr h1 _ w1 J H1 α1 e1 hr1 rd=>?_⟩
 refine⟨fun i m σ H=>∃α env h,Ext X.K α1 H1 α H/\dM X.K g α H env σ h/\WQ X.K g ε α H (lS sr.rdr fg mb m i env h) (cZ X.K g α H E),⟨sr.fuel h1,α1,env,h1,Ext.refl,s.ext e1 hr1,w1.yw e1⟩,?_⟩
 rintro i m σ2 H2 ⟨α2,env2,h2,x2,s2,w2⟩
 have q:=rd α2 H2 h2 x2 s2.heap i
 unfold lS at w2
 cases e:sr.rdr h2 i with
 | none=>rw[e] at w2;exact w2.elim
 | some od=>
  rw[e] at w2 q
  cases od with
  | none=>exact .inl ⟨q,s2.nx Ext.refl w2⟩
  | some d=>
   cases m with
   | zero=>exact w2.elim
   | succ m=>
    have w3:=WQ.bind (show WQ X.K g ε α2 H2 ((fg d env2 h2).bind _) _ from w2)
    refine .inr ⟨q.1,fun σ' H'=>∃α env h,Ext X.K α1 H1 α H'/\dM X.K g α H' env σ' h/\WQ X.K g ε α H' (lS sr.rdr fg mb m (i+1) env h) (cZ X.K g α H' E),fun σ' H' z=>⟨m,Ph _,z⟩,fun x H3 y=>?_⟩
    obtain⟨α3,x3,hr3,rx⟩:=q.2 x H3 y
    refine ig α3 H3 h2 env2 σ2 d x _ (s2.ext x3 hr3) rx ((w3.ext x3).mono fun e4 h4 _ w4 σ4 H4 α4 x4 s4=>?_)
    refine tMS.use s4 ((w4.ext x3).ext x4).bind fun fl h5 H5 α5 x5 hr5 w5=>?_
    have tr:=x3.trans (x4.trans x5)
    cases fl with
    | nx e=>exact fun σ' s'=>⟨α5,e,h5,x2.trans tr,s',((w5.ext x5)).mono fun _ _ _ p=>p.ext tr⟩
    | ct e=>exact fun σ' s'=>⟨α5,e,h5,x2.trans tr,s',((w5.ext x5)).mono fun _ _ _ p=>p.ext tr⟩
    | bk e=>exact fun σ' s'=>(show cZ X.K g α2 H2 E (.nx e) h5 from w5) H5 α5 tr hr5 σ' s'.vs
    | rt d=>exact fun v rv=>(show cZ X.K g α2 H2 E (.rt d) h5 from w5) H5 α5 tr hr5 v rv
theorem aU.lst {K:gV}{α:List Addr}{H:Hp}{h:Hh}{n:Nat}{ds:List D} (r:aU K g α H h) (e:aH h n=some ds){p:Addr} (hp:α[n]?=some p):∃vs,H p=some (.lst vs)/\ax K g α H ds vs:=by
 unfold aH at e
 cases o:h[n]? with
 | none=>simp_all
 | some o'=>
  rw[o] at e
  have q:=r.here n p o' hp o
  cases o' with
  | lst ds'=>cases e;assumption
  | set n=>cases e
  | dic k=>cases e
  | dit k=>cases e
noncomputable def vE:D->Hh->R Src
 | .tup ds,h=>.ok (.snap ds) h
 | .frl ds,h=>.ok (.snap ds) h
 | .scr ds,h=>.ok (.snap ds) h
 | .ref n,h=>match aH h n with
  | some _=>.ok (.live n) h
  | none=>.bad
 | _,_=>.bad
noncomputable def cw (a:ME):MI:=fun env h=>(a env h).bind vE
noncomputable def Lz (K:gV) (tl:TE):TI:=fun σ H R=>tl σ H fun x H1=>∃a,x=.ref a/\(((∃xs,SqL K H1 a xs)/\R (Itl K a) H1)\/((∃xs,SqT K H1 a xs)/\R (Itt K a) H1))
theorem H0 {tg l:Expr}{tl:TE} (hl:PE X l tl):PI X tg l (Lz X.K tl):=by
 intro pins s σ H R I h
 refine thn (hl pins s σ H _ I h) fun v s1 ⟨x,H1,I1,r1,q1⟩=>?_
 obtain⟨a,e,q⟩:=q1
 subst e
 cases r1
 rcases q with⟨⟨xs,hq⟩,q⟩ | ⟨⟨xs,hq⟩,q⟩
 ·obtain⟨its,rv,p,hz⟩:=I1.list hq
  refine R3 p.isList ?_
  refine⟨s1.heap.objs.size,[s1.heap.objs.size],_,_,H1,rfl,I1.kept fun b o e=>k5 _ e,Ap a _,⟨_,NH _ rfl,rfl,rfl⟩,fun b hb=>?_,q⟩
  have e:b=s1.heap.objs.size:=by simp_all
  subst e
  exact I1.Ey (NC _) (I1.hok.fresh (NC _))
 ·obtain⟨its,rv,p,hz⟩:=I1.tuple hq
  refine Qw (show s1.heap.IsTuple a its.toArray from p) ?_
  refine⟨s1.heap.objs.size,[s1.heap.objs.size],_,_,H1,rfl,I1.kept fun b o e=>k5 _ e,xy a _,⟨_,NH _ rfl,rfl,rfl⟩,fun b hb=>?_,q⟩
  have e:b=s1.heap.objs.size:=by simp_all
  subst e
  exact I1.Ey (NC _) (I1.hok.fresh (NC _))
theorem zZ {K:gV} (hq':H a=some (.tup vs)) (rs:ax K g α H ds vs):Reads K g (Itt K a) (Src.snap ds).rdr α H:=by
 intro α2 H2 h2 x2 hr i
 have hq2:SqT K H2 a vs:=SqT.of (x2.tup _ _ hq')
 have rs2:=rs.ext x2
 show match some ds[i]? with | none=>True | some none=>_ | some (some d)=>_
 cases e:ds[i]? with
 | none=>
  have:ds.length<=i:=OY.mp e
  exact⟨vs,hq2,by rw[<- rs.length];lia⟩
 | some d=>
  obtain⟨v,ev,rv⟩:=rs2.get e
  refine⟨⟨vs,v,hq2,ev⟩,fun x H' y=>?_⟩
  obtain⟨e1,e2⟩:=y
  subst e1
  have:=e2 vs hq2
  rw[ev] at this
  cases this
  exact⟨α2,Ext.refl,hr,rv⟩
theorem q_ {K:gV} (hq:Fro K H a vs) (rs:ax K g α H ds vs):Reads K g (Itl K a) (Src.snap ds).rdr α H:=by
 intro α2 H2 h2 x2 hr i
 have hq2:=x2.fro _ _ hq
 have rs2:=rs.ext x2
 show match some ds[i]? with | none=>True | some none=>_ | some (some d)=>_
 cases e:ds[i]? with
 | none=>
  have:ds.length<=i:=OY.mp e
  exact⟨vs,hq2.sq,by rw[<- rs.length];lia⟩
 | some d=>
  obtain⟨v,ev,rv⟩:=rs2.get e
  refine⟨⟨vs,v,hq2.sq,ev⟩,fun x H' y=>?_⟩
  obtain⟨e1,e2⟩:=y
  subst e1
  have:=e2 vs hq2.sq
  rw[ev] at this
  cases this
  exact⟨α2,Ext.refl,hr,rv⟩
theorem Ab {K:gV} (ha:α[n]?=some a):Reads K g (Itl K a) (Src.live n).rdr α H:=by
 intro α2 H2 h2 x2 hr i
 show match (aH h2 n).map fun ds=>ds[i]? with | none=>True | some none=>_ | some (some d)=>_
 cases e:aH h2 n with
 | none=>trivial
 | some ds=>
  obtain⟨vs,hq',rs⟩:=hr.lst e (x2.get ha)
  have hq:SqL K H2 a vs:=SqL.of hq'
  show match some ds[i]? with | none=>True | some none=>_ | some (some d)=>_
  cases ei:ds[i]? with
  | none=>
   have:ds.length<=i:=OY.mp ei
   exact⟨vs,hq,by rw[<- rs.length];lia⟩
  | some d=>
   obtain⟨v,ev,rv⟩:=rs.get ei
   refine⟨⟨vs,v,hq,ev⟩,fun x H' y=>?_⟩
   obtain⟨e1,e2⟩:=y
   subst e1
   have:=e2 vs hq
   rw[ev] at this
   cases this
   exact⟨α2,Ext.refl,hr,rv⟩
theorem eW {tg e:Expr}{me:ME} (he:PE X e (tM X.K g ε me)):PI X tg e (tMI X.K g ε (cw me)):=
 PI.imp (H0 he) fun σ H T ⟨α,env,h,s,w⟩=>tM.use s w.bind fun d1 h1 v1 H1 α1 e1 s1 r1 w1=>by
  unfold vE at w1
  cases r1 with
  | tup hq rs=>exact⟨_,rfl,.inr ⟨⟨_,SqT.of hq⟩,w1 _ H1 α1 e1 s1.heap (zZ hq rs)⟩⟩
  | frl hq rs=>exact⟨_,rfl,.inl ⟨⟨_,hq.sq⟩,w1 _ H1 α1 e1 s1.heap (q_ hq.fro rs)⟩⟩
  | scr hq rs=>exact⟨_,rfl,.inl ⟨⟨_,hq.sq⟩,w1 _ H1 α1 e1 s1.heap (q_ hq rs)⟩⟩
  | @ref n p hp=>
   cases el:aH h1 n with
   | none=>simp only[el] at w1;exact w1.elim
   | some ds=>
    simp only[el] at w1
    obtain⟨vs,hq,_⟩:=s1.heap.lst el hp
    exact⟨p,rfl,.inl ⟨⟨_,SqL.of hq⟩,w1 _ H1 α1 e1 s1.heap (Ab hp)⟩⟩
  | _=>exact w1.elim
noncomputable def gB (ds:List D):List D:=(ND ds.length).map fun(i:Nat)=>D.tup [.int i,ds.getD i .non]
noncomputable def uw:D->Hh->R Src
 | .tup ds,h=>.ok (.snap (gB ds)) h
 | .frl ds,h=>.ok (.snap (gB ds)) h
 | .ref n,h=>match aH h n with
  | some _=>.ok (.liveE n) h
  | none=>.bad
 | _,_=>.bad
noncomputable def mx (a:ME):MI:=fun env h=>(a env h).bind uw
theorem rS {ds:List D}{i:Nat}:(gB ds)[i]?=(ds[i]?).map fun d=>D.tup [.int i,d]:=by
 unfold gB
 rw[NU]
 by_cases hi:i<ds.length
 ·have e:ds.getD i .non=ds[i]:=by rw[OE,NM hi];rfl
  rw[Pj hi,NM hi,So,So,e]
 ·rw[Ot (by simpa using hi),Ot (by lia)];rfl
theorem pR {K:gV}{i:Nat} (hr:aU K g α H h) (rv:aJ K g α H d v) (hp:H p=none) :
  ∃α',Ext K α H α' (upd H p (.tup [.int i,v]))/\aU K g α' (upd H p (.tup [.int i,v])) h/\aJ K g α' (upd H p (.tup [.int i,v])) (.tup [.int i,d]) (.ref p):=
 ⟨α,Ext.fresh hp,hr.grow hp,.tup bH (.cons (.int _) (.cons (rv.ext (Ext.fresh hp)) .nil))⟩
theorem u3 {K:gV} (hq':H a=some (.tup vs)) (rs:ax K g α H ds vs):Reads K g (Iet K a) (Src.snap (gB ds)).rdr α H:=by
 intro α2 H2 h2 x2 hr i
 have hq2:SqT K H2 a vs:=SqT.of (x2.tup _ _ hq')
 have rs2:=rs.ext x2
 show match some (gB ds)[i]? with | none=>True | some none=>_ | some (some d)=>_
 rw[rS]
 cases e:ds[i]? with
 | none=>
  have:ds.length<=i:=OY.mp e
  exact⟨vs,hq2,by rw[<- rs.length];lia⟩
 | some d=>
  obtain⟨v,ev,rv⟩:=rs2.get e
  refine⟨⟨vs,v,hq2,ev⟩,fun x H' y=>?_⟩
  obtain⟨p,v',e1,hp,e2,e3⟩:=y
  subst e1 e3
  have:=e2 vs hq2
  rw[ev] at this
  cases this
  exact pR hr rv hp
theorem vQ {K:gV} (hq:Fro K H a vs) (rs:ax K g α H ds vs):Reads K g (Iel K a) (Src.snap (gB ds)).rdr α H:=by
 intro α2 H2 h2 x2 hr i
 have hq2:=(x2.fro _ _ hq).sq
 have rs2:=rs.ext x2
 show match some (gB ds)[i]? with | none=>True | some none=>_ | some (some d)=>_
 rw[rS]
 cases e:ds[i]? with
 | none=>
  have:ds.length<=i:=OY.mp e
  exact⟨vs,hq2,by rw[<- rs.length];lia⟩
 | some d=>
  obtain⟨v,ev,rv⟩:=rs2.get e
  refine⟨⟨vs,v,hq2,ev⟩,fun x H' y=>?_⟩
  obtain⟨p,v',e1,hp,e2,e3⟩:=y
  subst e1 e3
  have:=e2 vs hq2
  rw[ev] at this
  cases this
  exact pR hr rv hp
theorem vK {K:gV} (ha:α[n]?=some a):Reads K g (Iel K a) (Src.liveE n).rdr α H:=by
 intro α2 H2 h2 x2 hr i
 show match (aH h2 n).map fun ds=>(ds[i]?).map fun d=>D.tup [.int i,d] with | none=>True | some none=>_ | some (some d)=>_
 cases e:aH h2 n with
 | none=>trivial
 | some ds=>
  obtain⟨vs,hq',rs⟩:=hr.lst e (x2.get ha)
  have hq:SqL K H2 a vs:=SqL.of hq'
  show match some ((ds[i]?).map fun d=>D.tup [.int i,d]) with | none=>True | some none=>_ | some (some d)=>_
  cases ei:ds[i]? with
  | none=>
   have:ds.length<=i:=OY.mp ei
   exact⟨vs,hq,by rw[<- rs.length];lia⟩
  | some d=>
   obtain⟨v,ev,rv⟩:=rs.get ei
   refine⟨⟨vs,v,hq,ev⟩,fun x H' y=>?_⟩
   obtain⟨p,v',e1,hp,e2,e3⟩:=y
   subst e1 e3
   have:=e2 vs hq
   rw[ev] at this
   cases this
   exact pR hr rv hp
theorem xY {elts:List Expr}{kt:Nat}{tp p pos:Pos}{e:Expr}{me:ME} (hg:Gl X "enumerate") (hm:X.mg "enumerate" = none) (he:PE X e (tM X.K g ε me)) (hs:starEach [e] X.env=[(false,eval e X.env)]:=by rfl):PI X (.Tuple elts kt tp) (.Call (.Name "enumerate" p) [e] [] pos) (tMI X.K g ε (mx me)):=
 PI.imp (Eo hg hm he hs) fun σ H T ⟨α,env,h,s,w⟩=>tM.use s w.bind fun d1 h1 v1 H1 α1 e1 s1 r1 w1=>by
  unfold uw at w1
  cases r1 with
  | tup hq rs=>exact⟨_,rfl,.inr ⟨⟨_,SqT.of hq⟩,w1 _ H1 α1 e1 s1.heap (u3 hq rs)⟩⟩
  | frl hq rs=>exact⟨_,rfl,.inl ⟨⟨_,hq.sq⟩,w1 _ H1 α1 e1 s1.heap (vQ hq.fro rs)⟩⟩
  | @ref n p hp=>
   cases el:aH h1 n with
   | none=>simp only[el] at w1;exact w1.elim
   | some ds=>
    simp only[el] at w1
    obtain⟨vs,hq,_⟩:=s1.heap.lst el hp
    exact⟨p,rfl,.inl ⟨⟨_,SqL.of hq⟩,w1 _ H1 α1 e1 s1.heap (vK hp)⟩⟩
  | _=>exact w1.elim
noncomputable def cX (lo:Int) (n:Nat):List D:=(ND n).map fun(i:Nat)=>D.int (lo+i)
noncomputable def eD:List D->Hh->R Src
 | [.int j],h=>if j.natAbs<=1000000 then .ok (.snap (cX 0 j.toNat)) h else .bad
 | _,_=>.bad
noncomputable def qt:List D->Hh->R Src
 | [.int i,.int j],h=>if i.natAbs<=1000000/\j.natAbs<=1000000 then .ok (.snap (cX i (j - i).toNat)) h else .bad
 | _,_=>.bad
noncomputable def dn (f:List D->Hh->R Src) (a:MA):MI:=fun env h=>(a env h).bind f
theorem rm {K:gV}{lo:Int}:Reads K g (Itr lo n) (Src.snap (cX lo n)).rdr α H:=by
 intro α2 H2 h2 x2 hr i
 show match some (cX lo n)[i]? with | none=>True | some none=>_ | some (some d)=>_
 unfold cX
 rw[NU]
 by_cases hi:i<n
 ·rw[Pj hi]
  refine⟨hi,fun x H' y=>?_⟩
  obtain⟨e1,e2⟩:=y
  subst e1 e2
  exact⟨α2,Ext.refl,hr,.int _⟩
 ·rw[Ot (by simp_all)]
  exact Nat.le_of_not_lt hi
theorem dB {tg a:Expr}{ma:MA}{p pos:Pos} (hg:Gl X "range") (hm:X.mg "range" = none) (ha:PA X [a] (tMA X.K g ε ma)) (hs:starEach [a] X.env=[(false,eval a X.env)]:=by rfl):PI X tg (.Call (.Name "range" p) [a] [] pos) (tMI X.K g ε (dn eD ma)):=
 PI.imp (Aj hg hm ha hs) fun σ H T ⟨α,env,h,s,w⟩=>tMA.use s w.bind fun d1 h1 v1 H1 α1 e1 s1 r1 w1=>by
  cases r1 with
  | nil=>exact w1.elim
  | cons ra rr=>
   cases rr with
   | cons _ _=>cases ra<;>exact w1.elim
   | nil=>
    cases ra with
    | int j=>
     obtain⟨hj,w2⟩:=WQ.gj w1
     exact⟨j,rfl,by lia,by lia,w2 _ H1 α1 e1 s1.heap rm⟩
    | _=>exact w1.elim
theorem sL {tg a b:Expr}{ma:MA}{p pos:Pos} (hg:Gl X "range") (hm:X.mg "range" = none) (ha:PA X [a,b] (tMA X.K g ε ma)) (hs:starEach [a,b] X.env=[(false,eval a X.env),(false,eval b X.env)]:=by rfl) (hs2:starEach [b] X.env=[(false,eval b X.env)]:=by rfl):PI X tg (.Call (.Name "range" p) [a,b] [] pos) (tMI X.K g ε (dn qt ma)):=
 PI.imp (zI hg hm ha hs hs2) fun σ H T ⟨α,env,h,s,w⟩=>tMA.use s w.bind fun d1 h1 v1 H1 α1 e1 s1 r1 w1=>by
  unfold qt at w1
  split at w1
  ·cases r1 with
   | cons ra rr=>
    cases ra
    cases rr with
    | cons rb rr=>
     cases rb
     cases rr
     obtain⟨hj,w2⟩:=WQ.gj w1
     exact⟨_,_,rfl,⟨by lia,by lia,by lia,by lia⟩,w2 _ H1 α1 e1 s1.heap rm⟩
  ·exact w1.elim
noncomputable def gQ (c:MT) (b:MS):Nat->En->Hh->R Fl
 | 0,_,_=>.bad
 | k+1,env,h=>(c env h).bind fun x h1=>if x=true then (b env h1).bind fun fl h2=>match fl with
   | .nx e=>gQ c b k e h2
   | .ct e=>gQ c b k e h2
   | .bk e=>.ok (.nx e) h2
   | .rt d=>.ok (.rt d) h2
  else .ok (.nx env) h1
noncomputable def xk (fuel:Nat) (c:MT) (b:MS):MS:=fun env h=>gQ c b fuel env h
theorem DR {c:Expr}{body:List Stmt}{mc:MT}{mb:MS}{pos:Pos} (fuel:Nat) (hp:Tr (model X.prog X.w) X.A X.env X.xe) (hc:PT X c (tMT X.K g ε mc)) (hb:PSs X body (tMS X.K g ε mb)):PS X (.While c body [] pos) (tMS X.K g ε (xk fuel mc mb)):=by
 refine PS.imp (Bz hp hc hb) fun E σ H ⟨α,env,h,s,w⟩=>?_
 refine⟨fun m σ H=>∃α env h,dM X.K g α H env σ h/\WQ X.K g ε α H (gQ mc mb m env h) (cZ X.K g α H E),⟨fuel,α,env,h,s,w⟩,?_⟩
 rintro m σ2 H2 ⟨α2,env2,h2,s2,w2⟩
 cases m with
 | zero=>exact w2.elim
 | succ m=>
  refine tMT.use s2 (WQ.bind (show WQ X.K g ε α2 H2 ((mc env2 h2).bind _) _ from w2)) fun b h3 H3 α3 x3 s3 w3=>?_
  cases b with
  | false=>rw[if_neg Oc] at w3 ⊢;exact s3.nx x3 w3
  | true=>
   refine⟨fun σ' H'=>∃α env h,dM X.K g α H' env σ' h/\WQ X.K g ε α H' (gQ mc mb m env h) (cZ X.K g α H' E),fun σ' H' z=>⟨m,Ph _,z⟩,?_⟩
   refine tMS.use s3 (w3.ext x3).bind fun fl h5 H5 α5 x5 hr5 w5=>?_
   have tr:=x3.trans x5
   cases fl with
   | nx e=>exact fun σ' s'=>⟨α5,e,h5,s',(w5.ext x5).mono fun _ _ _ p=>p.ext tr⟩
   | ct e=>exact fun σ' s'=>⟨α5,e,h5,s',(w5.ext x5).mono fun _ _ _ p=>p.ext tr⟩
   | bk e=>exact fun σ' s'=>(show cZ X.K g α2 H2 E (.nx e) h5 from w5) H5 α5 tr hr5 σ' s'.vs
   | rt d=>exact fun v rv=>(show cZ X.K g α2 H2 E (.rt d) h5 from w5) H5 α5 tr hr5 v rv
end
noncomputable abbrev E00:EE:=fun _ _ _=>False
noncomputable abbrev MF:=List D->Hh->R D
noncomputable def bR (n:Nat) (m:MS):MF:=fun ds h=>(m (ds.map some++N1 (n - ds.length) none) h).bind fun fl h1=>match fl with
 | .rt d=>.ok d h1
 | .nx _=>.ok .non h1
 | _=>.bad
noncomputable def spG (K:gV) (g:GG) (ε:XK->EE) (np:Nat) (m:MF):Sp:=fun vs H Q E=>vs.length=np/\∃α ds h,ax K g α H ds vs/\aU K g α H h/\WQ K g (ε E) α H (m ds h) (aS K g α H Q)
noncomputable abbrev spM (K:gV) (g:GG) (np:Nat) (m:MF):Sp:=spG K g (fun _=>E00) np m
theorem lN {K:gV}{g:GG}{α:List Addr}{H:Hp}{N:List Str}{ds:List D}{vs:List V} (r:ax K g α H ds vs):jQ K g α H (ds.map some++N1 (N.length - ds.length) none) (start N vs):=by
 have hl:=r.length
 refine⟨by simp[start,hl],fun i d h=>?_⟩
 by_cases hi:i<ds.length
 ·rw[NN (by simpa using hi),NU] at h
  cases e:ds[i]? with
  | none=>rw[e] at h;cases h
  | some d'=>
   rw[e] at h
   cases h
   obtain⟨v,ev,rv⟩:=r.get e
   refine⟨v,?_,rv⟩
   unfold start
   rw[NN (by simp;lia),NU,ev]
   rfl
 ·rw[NR (by simpa using hi),Qg] at h
  split at h<;>cases h
section
variable {P:NW}{w:Oo}{K:gV}{mg:Str->Option NB}{base:Heap}{g:GG}
theorem nX {st:Stmt} (F:Fun K x qual st f fd) (S:az N ps (aj st))
  (hb:∀cdv A outer s H E , fD k (A.deeper (envOfC qual (aj st) s.heap.objs.size f cdv)) →
   PSs (gg CX0 P w K mg base N qual (aj st) f cdv A outer s H E).nox (bW st) (tMS K g E00 mb)):eK P w K mg base CX0 (k+1) f fd ps (spM K g ps.length (bR N.length mb)):=by
 refine F.ok S (fun vs H Q E h=>h.1) fun cdv A outer s H vs Q E hr h=>⟨_,hb cdv A outer s H E hr,?_⟩
 obtain⟨hl,α,ds,h,rs,hh,w⟩:=h
 refine tMS.use ⟨hh,lN rs⟩ w.bind fun fl h' H' α' e r kk=>?_
 cases fl with
 | nx e'=>exact fun σ' s'=>(show aS K g α H Q .non h' from kk) _ H' α' e r .non
 | bk e'=>exact kk.elim
 | ct e'=>exact kk.elim
 | rt d=>exact fun v rv=>(show aS K g α H Q d h' from kk) _ H' α' e r rv
end
section
variable {X:Cx}{g:GG}
theorem DW {k:Nat}{f:Addr}{fd:QW}{ps:List Str}{m:MF}{np:Nat}{x:Str}{p pos:Pos}{e:Expr}{es:List Expr}{mr:MA} (F:eK X.prog X.w X.K X.mg X.base CX0 k f fd ps (spM X.K g np m)) (hr:fD k X.A) (hg:Gl X x) (hm:X.mg x=some (.ref f)) (hk:OF X.K (.ref f)=true) (hb:Binds X.K fd ps [])
  (ha:PA X (e::es) (tMA X.K g E00 mr)) (hlen:∀env h ds h',mr env h=.ok ds h'->ds.length=np) (hdb:(x == ("__debug__" : Str))=false:=by decide) (he:starEach (e::es) X.env=(false,eval e X.env)::starEach es X.env:=by rfl) (hpl:(backTo pos (starEach es X.env)).any (·.1)=false:=by rfl) :
  PE X (.Call (.Name x p) (e::es) [] pos) (tM X.K g E00 (ah m mr)):=
 PE.imp (Fi F hr hg hm hk hb .nil J7 ha hdb he hpl) fun σ H Q ⟨α,env,h,s,w⟩=>⟨α,env,h,s,w.bind.mono fun d1 h1 eq w1 v1 H1 α1 e1 hr1 r1=>by
  show spM X.K g np m (v1++[]) H1 Q E0
  rw[P9]
  refine⟨?_,α1,d1,h1,r1,hr1,w1.post e1⟩
  rw[<- r1.length]
  grind⟩
theorem ar:∀env h ds h',ak env h=.ok ds h'->ds.length=0:=fun env h ds h' e=>by cases e;rfl
theorem ag {a:ME}{r:MA}{n:Nat} (q:∀env h ds h',r env h=.ok ds h'->ds.length=n):∀env h ds h',aa a r env h=.ok ds h'->ds.length=n+1:=fun env h ds h' e=>by
 unfold aa at e
 cases e1:a env h with
 | ok d h1=>
  rw[e1] at e
  cases e2:r env h1 with
  | ok ds2 h2=>
   have e3:(R.ok (d::ds2) h2:R (List D))=.ok ds h':=by simpa [R.bind,e2] using e
   grind
  | err x h2=>simp[R.bind,e2] at e
  | bad=>simp[R.bind,e2] at e
 | err x h2=>rw[e1] at e;cases e
 | bad=>rw[e1] at e;cases e
end
noncomputable def mw (ix:List Nat) (env:En) (d:D):En:=some d::ix.map fun i=>(env[i]?).join
noncomputable def tt1:MT:=fun _ h=>.ok true h
noncomputable def iU (rd:Rdr) (tt:MT) (te:ME) (ee:D->En):Nat->Nat->List D->Hh->R (List D)
 | k,i,acc,h=>match rd h i with
  | none=>.bad
  | some none=>.ok acc h
  | some (some d)=>match k with
   | 0=>.bad
   | k+1=>(tt (ee d) h).bind fun b h1=>if b=true then (te (ee d) h1).bind fun y h2=>iU rd tt te ee k (i+1) (acc++[y]) h2 else iU rd tt te ee k (i+1) acc h1
noncomputable def cx (tt:MT) (te:ME) (ee:D->En):List D->Hh->R (List D)
 | [],h=>.ok [] h
 | d::ds,h=>(tt (ee d) h).bind fun b h1=>if b=true then (te (ee d) h1).bind fun y h2=>(cx tt te ee ds h2).bind fun ys h3=>.ok (y::ys) h3 else cx tt te ee ds h1
theorem cL (r:R β) (f) (k:γ->Hh->R δ):(r.bind f).bind k=r.bind fun b h=>(f b h).bind k:=by cases r<;>rfl
theorem Bf (tt:MT) (te:ME) (ee:D->En) (all:List D):∀(ds:List D) (i:Nat) (acc:List D) (h:Hh),all.drop i=ds->iU (Src.snap all).rdr tt te ee ds.length i acc h=(cx tt te ee ds h).bind fun ys h'=>.ok (acc++ys) h':=by
 intro ds
 induction ds with
 | nil=>
  intro i acc h e
  have:all[i]?=none:=by
   simp_all
  unfold iU cx Src.rdr
  simp[this,R.bind]
 | cons d ds ih=>
  intro i acc h e
  have h0:all[i]?=some d:=by
   have:=congrArg (fun l=>l[0]?) e
   grind
  have h1:all.drop (i+1)=ds:=by
   have:=congrArg List.tail e
   simpa using this
  unfold iU cx
  have:(Src.snap all).rdr h i=some (some d):=by unfold Src.rdr;simp[h0]
  rw[this]
  show((tt (ee d) h).bind _)=_
  rw[cL]
  congr 1
  funext b h2
  cases b with
  | false=>simp_all
  | true=>
   rw[if_pos rfl,if_pos rfl,cL]
   congr 1
   funext y h3
   rw[cL]
   have:=ih (i+1) (acc++[y]) h3 h1
   rw[this]
   congr 1
   funext ys h4
   show R.ok (acc++[y]++ys) h4=R.ok (acc++(y::ys)) h4
   simp
noncomputable def bT (nl:NL) (mi:MI) (ix:List Nat) (tt:MT) (te:ME):ME:=fun env h=>(mi env h).bind fun sr h1=>if sr.fuel h1<=1000000 then
 (match sr with
  | .snap ds=>cx tt te (mw ix env) ds h1
  | .live n=>iU (Src.live n).rdr tt te (mw ix env) ((aH h1 n).getD []).length 0 [] h1
  | .liveE n=>iU (Src.liveE n).rdr tt te (mw ix env) ((aH h1 n).getD []).length 0 [] h1).bind nl else .bad
theorem BV:bT nl mi ix tt te env h=(mi env h).bind fun sr h1=>if sr.fuel h1<=1000000 then (iU sr.rdr tt te (mw ix env) (sr.fuel h1) 0 [] h1).bind nl else .bad:=by
 unfold bT
 congr 1
 funext sr h1
 cases sr with
 | snap ds=>
  have:=Bf tt te (mw ix env) ds ds 0 [] h1 rfl
  have e:(Src.snap ds).fuel h1=ds.length:=rfl
  rw[e,this,cL]
  rfl
 | live n=>rfl
 | liveE n=>rfl
theorem ER {K:gV}{g:GG}{α:List Addr}{H:Hp}{env:En}{σ:St}{ix:List Nat}{d:D}{v:V} (s:jQ K g α H env σ) (r:aJ K g α H d v):jQ K g α H (mw ix env d) ((vg ix σ).set 0 (some v)):=by
 refine⟨by simp[mw,vg],fun i e h=>?_⟩
 cases i with
 | zero=>
  have:d=e:=by simpa [mw] using h
  subst this
  exact⟨v,by rfl,r⟩
 | succ i=>
  have h':(ix.map fun i=>(env[i]?).join)[i]?=some (some e):=by assumption
  rw[NU] at h'
  cases ei:ix[i]? with
  | none=>simp_all
  | some j=>
   rw[ei] at h'
   have h2:(env[j]?).join=some e:=by simp_all
   cases ej:env[j]? with
   | none=>simp_all
   | some oe=>
    rw[ej] at h2
    have h3:oe=some e:=by simp_all
    subst h3
    obtain⟨u,eu,ru⟩:=s.vars j e ej
    refine⟨u,?_,ru⟩
    simp only[vg,List.set_cons_zero,List.getElem?_cons_succ,NU,ei,So,eu]
    rfl
section
variable {X:Cx}{g:GG}
theorem iO:PTs X [] (tMT X.K g E00 tt1):=fun pins s σ H Q I ⟨α,env,h,s',w⟩=>E3 pins s σ H Q I (w H α Ext.refl s'.heap)
theorem jx {mt:MT} (h:PT X c (tMT X.K g E00 mt)):PTs X [c] (tMT X.K g E00 mt):=Dz h
theorem vM {K:gV}{nl:NL} [ky nl]{mi:MI}{tt:MT}{te:ME}{ix:List Nat}{σ:St}{H:Hp}{Q R:VK} (hR:∀v H,jg Q v H->R v H) (t:tM K g E00 (bT nl mi ix tt te) σ H Q):FY (tMI K g E00 mi) ix (tMT K g E00 tt) (tM K g E00 te) σ H R:=by
 obtain⟨α,env,h,s,w⟩:=t
 rw[BV] at w
 refine⟨α,env,h,s,w.bind.mono fun sr h1 _ w1 J H1 α1 e1 hr1 rd=>fun acc hacc=>?_⟩
 obtain⟨hf,w1⟩:=WQ.gj w1
 have s1:=s.ext e1 hr1
 refine⟨fun i m ys H=>∃α h as,Ext K α1 H1 α H/\aU K g α H h/\ax K g α H as ys/\H acc=some (.lst ys)/\acc∉α/\as.length+m<=1000000 ∧
  WQ K g E00 α1 H1 ((iU sr.rdr tt te (mw ix env) m i as h).bind nl) (aS K g α1 H1 Q),
  ⟨sr.fuel h1,α1,h1,[],Ext.fresh hacc,hr1.grow hacc,.nil,bH,hr1.free hacc,by simp_all,w1.post e1⟩,?_⟩
 rintro i m ys H2 ⟨α2,h2,as,x2,hr2,ra,ha,hna,hm,w2⟩
 have q:=rd α2 H2 h2 x2 hr2 i
 unfold iU at w2
 cases e:sr.rdr h2 i with
 | none=>rw[e] at w2;exact w2.elim
 | some od=>
  rw[e] at w2 q
  cases od with
  | none=>
   refine .inl ⟨q,?_⟩
   exact hR _ _ <| ky.at' (show WQ K g E00 α1 H1 (nl as h2) _ from w2) (fun _ _ z=>z) x2 hr2 ra ha hna hacc
  | some d=>
   cases m with
   | zero=>exact w2.elim
   | succ m=>
    rw[cL] at w2
    have w3:=WQ.bind (show WQ K g E00 α1 H1 ((tt (mw ix env d) h2).bind _) _ from w2)
    refine .inr ⟨q.1,fun x H3 y=>?_⟩
    obtain⟨α3,x3,hr3,rx⟩:=q.2 x H3 y
    have ha3:=x3.keep _ _ ha hna
    have hna3:acc∉α3:=fun z=>by have:=x3.new _ z hna;simp_all
    have s3:dM K g α3 H3 (mw ix env d) ((vg ix σ).set 0 (some x)) h2:=⟨hr3,ER (s1.vs.ext (x2.trans x3)) rx⟩
    refine tMT.use s3 ((w3.ext x2).ext x3) fun b h4 H4 α4 x4 s4 w4=>?_
    have ha4:=x4.keep _ _ ha3 hna3
    have hna4:acc∉α4:=fun z=>by have:=x4.new _ z hna3;simp_all
    cases b with
    | false=>
     exact⟨m,Ph _,α4,h4,as,x2.trans (x3.trans x4),s4.heap,ra.ext (x3.trans x4),ha4,hna4,by lia,w4⟩
    | true=>
     rw[if_pos rfl] at w4 ⊢
     rw[cL] at w4
     refine tM.use s4 (((WQ.bind w4).ext x2).ext (x3.trans x4)) fun y h5 v5 H5 α5 x5 s5 r5 w5=>?_
     have ha5:=x5.keep _ _ ha4 hna4
     have hna5:acc∉α5:=fun z=>by have:=x5.new _ z hna4;simp_all
     have soft:EA H5 acc:=.inr ⟨_,ha5,fun _ z=>(nomatch z),fun _ _ z=>(nomatch z),fun _ z=>nomatch z⟩
     have x6:Ex0 K α5 H5 α5 (upd H5 acc (.lst (ys++[v5]))):=Ex0.upd soft
     have tr:=x2.trans (x3.trans (x4.trans x5))
     refine⟨ha5,?_,m,Ph _,α5,h5,as++[y],⟨tr.toEx0.trans x6,fun p o z n nt=>?_,tr.new⟩,s5.heap.off soft hna5,((ra.ext (x3.trans (x4.trans x5))).append (.cons r5 .nil)).ex0 x6,bH,hna5,by grind,w5⟩
     ·rw[<- ra.length,O5];lia
     ·rw[aN (bh z hacc)];exact tr.kept p o z n nt
end
noncomputable def sml (i:Int):Bool:=decide (i.natAbs<2 ^ 1900)
theorem pF (h:sml i=true):QO i<=1900:=by
 have h':=of_decide_eq_true h
 unfold QO
 split
 ·lia
 ·rename_i z
  have z':i.natAbs≠0:=by
   simp_all
  have:=(Nat.log2_lt z').mpr h'
  lia
theorem Es (h:sml i=true):i.natAbs.log2<1900:=by
 have h':=of_decide_eq_true h
 by_cases z:i.natAbs=0
 ·simp_all
 ·exact(Nat.log2_lt z).mpr h'
theorem Ca (h:i.natAbs<=10 ^ 560):sml i=true:=by
 refine decide_eq_true (Nat.lt_of_le_of_lt h (by lia))
section
variable {X:Cx}{K:gV}{g:GG}{ε:EE}
theorem OpR.or (h:OpR X f r) (h':OpR X f r'):OpR X f (fun x y H Q=>r x y H Q\/r' x y H Q):=fun pins s σ H x y v u Q I rx ry q=>q.elim (h pins s σ H x y v u Q I rx ry) (h' pins s σ H x y v u Q I rx ry)
noncomputable def iH (d:D) (h:Hh):Option (List D):=match d with
 | .frl ds=>some ds
 | .ref n=>aH h n
 | _=>none
theorem xQ (r:aU K g α H h) (rd:aJ K g α H d x) (e:iH d h=some ds):∃p vs,x=.ref p/\Rd H p (.lst vs)/\ax K g α H ds vs:=by
 cases rd with
 | frl hq rs=>cases e;exact⟨_,_,rfl,hq.rd,rs⟩
 | ref hp=>obtain⟨vs,hv,rs⟩:=r.lst e hp;exact⟨_,vs,rfl,.inl hv,rs⟩
 | _=>cases e
noncomputable def Fx:R2:=fun x y H Q=>∃l b xs zs,x=.ref l/\y=.ref b/\Rd H l (.lst xs)/\Rd H b (.lst zs)/\xs.length+zs.length<=sizeLine/\∀p,H p=none->Q (.ref p) (upd H p (.lst (xs++zs)))
theorem Gu {σ:St} (I:Inv X pins σ H s) (h:Rd H l (.lst xs)):∃its n,xs.length<=sizeLine/\Vals xs its/\xs.length=its.length/\s.heap.get? l=some { cls:=.type "list", data:=.seq its.toArray n }:=by
 obtain⟨z,its,n,r,e⟩:=h.ok I.hok
 exact⟨its,n,z,r,r.length,e⟩
theorem Ex:OpR X (binaryOp .Add) Fx:=by
 intro pins s σ H x y v u Q I rx ry h
 obtain⟨l,b,xs,zs,rfl,rfl,hH,hB,hz,q⟩:=h
 cases rx
 cases ry
 obtain⟨its,n,z,r,hl,e⟩:=Gu I hH
 obtain⟨its2,n2,z2,r2,hl2,e2⟩:=Gu I hB
 refine PySem.P.add_list e e2 ?_ (by simp_all)
 have ea:its.toArray++its2.toArray=(its++its2).toArray:=by simp
 rw[ea]
 exact⟨.ref _,_,I.D7 (r.append r2) (by simp_all),rfl,q _ I.fresh⟩
noncomputable def cH (nl:NL):D->D->Hh->R D:=fun x y h=>match x,y with
 | .int i,.int j=>.ok (.int (i+j)) h
 | .tup a,.tup b=>if a.length+b.length<=1000000 then .ok (.tup (a++b)) h else .bad
 | .str a,.str b=>if a.length+b.length<=1000000 then .ok (.str (a++b)) h else .bad
 | x,y=>match iH x h,iH y h with
  | some a,some b=>if a.length+b.length<=1000000 then nl (a++b) h else .bad
  | _,_=>.bad
noncomputable abbrev Cm (K:gV):R2:=fun x y H Q=>(rI0 fun i j=>.int (i+j)) x y H Q\/(FX K x y H Q\/BA K x y H Q)\/Fx x y H Q\/∃i j,x=.str i/\y=.str j/\i.length+j.length<=sizeLine/\Q (.str (i++j)) H
theorem Ir:OpR X (binaryOp .Add) (fun x y H Q=>Cm X.K x y H (jg Q)):=OpR.frz (OpR.or GS (OpR.or (OpR.or ED BM) (OpR.or Ex xR)))
theorem aS.Au (p:aS K g α H Q d h) (r:aU K g α H h) (rd:aJ K g α H d v):jg Q v H:=.inl (p.now r rd)
theorem GR {nl:NL} [ky nl]:eV K g ε (cH nl) (fun x y H Q=>Cm K x y H (jg Q)):=by
 intro α H h a b x y Q r ra rb w
 have gen:∀{a b:D} {x y:V},aJ K g α H a x->aJ K g α H b y->WQ K g ε α H (match iH a h,iH b h with
  | some a,some b=>if a.length+b.length<=1000000 then nl (a++b) h else .bad
  | _,_=>.bad) (aS K g α H Q)->Cm K x y H (jg Q):=by
  intro a b x y ra rb w
  cases e1:iH a h with
  | none=>simp only[e1] at w;exact w.elim
  | some da=>
   cases e2:iH b h with
   | none=>simp only[e1,e2] at w;exact w.elim
   | some db=>
    simp only[e1,e2] at w
    obtain⟨p,va,rfl,hva,rsa⟩:=xQ r ra e1
    obtain⟨q,vb,rfl,hvb,rsb⟩:=xQ r rb e2
    obtain⟨hl,w⟩:=WQ.gj w
    refine .inr (.inr (.inl ⟨p,q,va,vb,rfl,rfl,hva,hvb,iC (by rw[<- rsa.length,<- rsb.length];exact hl),fun l hl'=>?_⟩))
    exact NL.post w r (rsa.append rsb) hl'
 unfold cH at w
 split at w
 ·cases ra
  cases rb
  exact .inl ⟨_,_,rfl,rfl,aS.Au w r (.int _)⟩
 ·cases ra with
  | @tup da pa va ha rsa=>
   cases rb with
   | @tup db pb vb hb rsb=>
    obtain⟨hl,w⟩:=WQ.gj w
    refine .inr (.inl ?_)
    cases va with
    | nil=>
     cases rsa
     exact .inr ⟨_,_,_,rfl,rfl,SqT.of ha,SqT.of hb,aS.Au w r (.tup hb rsb)⟩
    | cons z zs=>
     refine .inl ⟨_,_,_,_,rfl,rfl,SqT.of ha,SqT.of hb,by simp,iC (by rw[<- rsa.length,<- rsb.length];exact hl),fun e=>?_,fun _ p hp=>.inl (aS.tup w r (rsa.append rsb) hp)⟩
     subst e
     cases rsb
     refine aS.Au w r (.tup ha ?_)
     rw[P9];exact rsa
 ·cases ra
  cases rb
  obtain⟨hl,w⟩:=WQ.gj w
  exact .inr (.inr (.inr ⟨_,_,rfl,rfl,iC hl,aS.Au w r (.str _)⟩))
 ·exact gen ra rb w
noncomputable def a9:D->D->Hh->R D
 | .int i,.int j,h=>.ok (.int (i - j)) h
 | _,_,_=>.bad
theorem G1:eV K g ε a9 (rI0 fun i j=>.int (i - j)):=by
 intro α H h a b x y Q r ra rb w
 cases ra with
 | int i=>
  cases rb with
  | int j=>exact⟨i,j,rfl,rfl,aS.now w r (.int _)⟩
  | _=>exact w.elim
 | _=>exact w.elim
noncomputable def Fy:R2:=fun x y H Q=>∃l k xs,x=.ref l/\y=.int k/\Rd H l (.lst xs)/\-(2 ^ 63)<=k/\k<2 ^ 63/\xs.length*k.toNat<=sizeLine ∧
 ∀p,H p=none->Q (.ref p) (upd H p (.lst (N1 k.toNat xs).flatten))
theorem Fs:OpR X (binaryOp .Mult) Fy:=by
 intro pins s σ H x y v u Q I rx ry h
 obtain⟨l,k,xs,rfl,rfl,hH,h1,h2,hz,q⟩:=h
 cases rx
 obtain⟨t,rfl⟩:=ry
 obtain⟨its,n,z,r,hl,e⟩:=Gu I hH
 have hlen:its.toArray.size*k.toNat<=sizeLine:=by simp_all
 have hcap:¬ its.toArray.size*k.toNat > (2 ^ 63 - 1) / 8:=by
  have:(sizeLine:Nat)<=(2 ^ 63 - 1) / 8:=by decide
  lia
 have hfit:¬ (!Builtin.List.listFitsIndex k)=true:=by
  rw[fitsIndex_both h1 h2]
  simp
 have hlong:¬ QR (its.toArray.size*k.toNat)=true:=by
  rw[B8 hlen]
  simp
 have hnew:TH (fun x1 x2=>x1++x2) #[] (N1 (if its.toArray.isEmpty=true then 0 else k.toNat) its.toArray)=(N1 k.toNat its).flatten.toArray:=by
  have f0:=fun m=>by
   have:=foldl_rep its m []
   rw[PJ] at this
   exact this
  rw[f0]
  cases its with
  | nil=>simp
  | cons a r'=>rfl
 refine wpAny_binaryOp_repeat_ref (by decide) ⟨_,e,rfl⟩ (fun s'=>TF s' k t) noFill_list_mul F.fills_int_mul F.slot_int_rmul repeat_list F.slot_int_index.lookup
  (TJ F.slot_int_rmul (TF s k t) F.entry_int_rmul (F.args_int_rmul_2 _ _) (int___rmul___int_list k t l its.toArray n)
   ⟨e,rfl,⟨_,e,rfl⟩,TJ F.slot_list_mul ⟨_,e,rfl⟩ F.entry_list_mul (F.args_list_mul_2 _ _) (AutoListH.list___mul___list_int_3 l its.toArray n k t hfit hcap hlong) ⟨e,?_⟩⟩)
 rw[hnew]
 exact⟨.ref _,_,I.D7 (r.rep k.toNat) (by rw[len_rep,Nat.mul_comm];exact hz),rfl,q _ I.fresh⟩
noncomputable def mT (nl:NL):D->D->Hh->R D:=fun x y h=>match x,y with
 | .int i,.int j=>if sml i=true/\sml j=true then .ok (.int (i*j)) h else .bad
 | x,.int k=>match iH x h with
  | some ds=>if k.natAbs<=1000000/\ds.length*k.toNat<=1000000 then nl (N1 k.toNat ds).flatten h else .bad
  | none=>.bad
 | _,_=>.bad
theorem Dr:OpR X (binaryOp .Mult) (rI (fun i j=>sml i=true/\sml j=true) fun i j=>.int (i*j)):=opI fun _ _ _ _ _ _ _ hc q=>mul_int q (IntMulOk.of_bits (N4 (pF hc.1) (by decide)) (N4 (pF hc.2) (by decide)))
noncomputable abbrev Bq:R2:=fun x y H Q=>(rI (fun i j=>sml i=true/\sml j=true) fun i j=>.int (i*j)) x y H Q\/Fy x y H Q
theorem G_:OpR X (binaryOp .Mult) (fun x y H Q=>Bq x y H (jg Q)):=OpR.frz (OpR.or Dr Fs)
theorem Gq {nl:NL} [ky nl]:eV K g ε (mT nl) (fun x y H Q=>Bq x y H (jg Q)):=by
 intro α H h a b x y Q r ra rb w
 have gen:∀{a:D} {k:Int} {x:V},aJ K g α H a x->WQ K g ε α H (match iH a h with
  | some ds=>if k.natAbs<=1000000/\ds.length*k.toNat<=1000000 then nl (N1 k.toNat ds).flatten h else .bad
  | none=>.bad) (aS K g α H Q)->Bq x (.int k) H (jg Q):=by
  intro a k x ra w
  cases e1:iH a h with
  | none=>simp only[e1] at w;exact w.elim
  | some ds=>
   simp only[e1] at w
   obtain⟨hl,w⟩:=WQ.gj w
   obtain⟨p,vs,rfl,hv,rs⟩:=xQ r ra e1
   refine .inr ⟨p,k,vs,rfl,rfl,hv,by lia,by lia,iC (by rw[<- rs.length];exact hl.2),fun l hl'=>?_⟩
   exact NL.post w r (rs.flat k.toNat) hl'
 unfold mT at w
 split at w
 ·cases ra
  cases rb
  obtain⟨hc,w⟩:=WQ.gj w
  exact .inl ⟨_,_,rfl,rfl,hc,aS.Au w r (.int _)⟩
 ·cases rb
  exact gen ra w
 ·exact w.elim
noncomputable def Ao:D->D->Hh->R D
 | .int i,.int j,h=>if 0<j/\sml j=true then .ok (.int (i / j)) h else .bad
 | _,_,_=>.bad
theorem AY:OpR X (binaryOp .FloorDiv) (rI (fun i j=>0<j/\sml j=true) fun i j=>.int (i / j)):=opI fun i j _ _ _ _ _ hc q=>by
 have e:i.fdiv j=i / j:=Int.fdiv_eq_ediv_of_nonneg _ (by lia)
 refine floordiv_int (by lia) ?_ (.inl (PyProof.noPylong_of_log2 (Sq (Es hc.2) (by decide))))
 simp_all
theorem Iu:eV K g ε Ao (rI (fun i j=>0<j/\sml j=true) fun i j=>.int (i / j)):=by
 intro α H h a b x y Q r ra rb w
 cases ra with
 | int i=>
  cases rb with
  | int j=>
   obtain⟨hc,w⟩:=WQ.gj w
   exact⟨i,j,rfl,rfl,hc,aS.now w r (.int _)⟩
  | _=>exact w.elim
 | _=>exact w.elim
noncomputable def qh:D->D->Hh->R D
 | .int i,.int j,h=>if 0<j then .ok (.int (i % j)) h else .bad
 | _,_,_=>.bad
theorem HM:eV K g ε qh (rI (fun _ j=>0<j) fun i j=>.int (i % j)):=by
 intro α H h a b x y Q r ra rb w
 cases ra with
 | int i=>
  cases rb with
  | int j=>
   obtain⟨hc,w⟩:=WQ.gj w
   exact⟨i,j,rfl,rfl,hc,aS.now w r (.int _)⟩
  | _=>exact w.elim
 | _=>exact w.elim
noncomputable def Ht:D->D->Hh->R D
 | .int i,.int j,h=>if 0<=j/\j.natAbs<=1000/\sml i=true then .ok (.int (i ^ j.toNat)) h else .bad
 | _,_,_=>.bad
theorem DC:OpR X (binaryOp .Pow) (rI (fun i j=>0<=j/\j.natAbs<=1000/\sml i=true) fun i j=>.int (i ^ j.toNat)):=opI fun i j _ _ _ _ _ hc q=>pow_int hc.1 (by
 have:=pF hc.2.2
 have h1:((QO i:Nat):Int)<=1900:=by lia
 calc ((QO i:Nat):Int)*j<=1900*j:=OV h1 hc.1
  _<=1900*1000:=Int.mul_le_mul_of_nonneg_left (show j<=1000 by lia) (by decide)
  _<=2 ^ 27:=by decide) q
theorem GO:eV K g ε Ht (rI (fun i j=>0<=j/\j.natAbs<=1000/\sml i=true) fun i j=>.int (i ^ j.toNat)):=by
 intro α H h a b x y Q r ra rb w
 cases ra with
 | int i=>
  cases rb with
  | int j=>
   obtain⟨hc,w⟩:=WQ.gj w
   exact⟨i,j,rfl,rfl,hc,aS.now w r (.int _)⟩
  | _=>exact w.elim
 | _=>exact w.elim
noncomputable def h8:D->Hh->R D
 | .int i,h=>.ok (.int (-i)) h
 | _,_=>.bad
theorem ip:K2 K g ε h8 (rU fun i=>.int (-i)):=by
 intro α H h a x Q r ra w
 cases ra with
 | int i=>exact⟨i,rfl,aS.now w r (.int _)⟩
 | _=>exact w.elim
noncomputable def B9 (p:Int->Int->Bool):D->D->Hh->R D
 | .int i,.int j,h=>.ok (.bl (p i j)) h
 | _,_,_=>.bad
noncomputable def ltI:Int->Int->Bool
 | .ofNat a,.ofNat b=>T7 a b
 | .ofNat _,.negSucc _=>false
 | .negSucc _,.ofNat _=>true
 | .negSucc a,.negSucc b=>T7 b a
theorem pe:ltI=fun i j=>decide (i<j):=by
 funext i j
 cases i with
 | ofNat a=>
  cases j with
  | ofNat b=>
   show T7 a b=_
   rw[PK,Nat.blt_eq,decide_eq_true_iff]
   simp
  | negSucc b=>rfl
 | negSucc a=>
  cases j with
  | ofNat b=>exact(decide_eq_true (by grind)).symm
  | negSucc b=>
   show T7 b a=_
   rw[PK,Nat.blt_eq,decide_eq_true_iff]
   lia
noncomputable def leI (i j:Int):Bool:=!ltI j i
theorem sY:leI=fun i j=>decide (i<=j):=by
 funext i j
 unfold leI
 rw[pe,PK]
 simp
noncomputable def dLt:D->D->Hh->R D:=B9 ltI
noncomputable def dLe:D->D->Hh->R D:=B9 leI
noncomputable def dGt:D->D->Hh->R D:=B9 fun i j=>ltI j i
noncomputable def dGe:D->D->Hh->R D:=B9 fun i j=>leI j i
theorem tZ:eV K g ε (B9 p) (rI0 fun i j=>.bl (p i j)):=by
 intro α H h a b x y Q r ra rb w
 cases ra with
 | int i=>
  cases rb with
  | int j=>exact⟨i,j,rfl,rfl,aS.now w r (.bl _)⟩
  | _=>exact w.elim
 | _=>exact w.elim
theorem Bw:eV K g ε dLt (rI0 fun i j=>.bl (decide (i<j))):=by
 unfold dLt;rw[pe];exact tZ
theorem rh:eV K g ε dLe (rI0 fun i j=>.bl (decide (i<=j))):=by
 unfold dLe;rw[sY];exact tZ
theorem JD:eV K g ε dGt (rI0 fun i j=>.bl (decide (j<i))):=by
 unfold dGt;rw[pe];exact tZ
theorem J5:eV K g ε dGe (rI0 fun i j=>.bl (decide (j<=i))):=by
 unfold dGe;rw[sY];exact tZ
noncomputable def jw (d:D) (h:Hh):Option (List D):=match d with
 | .tup ds=>some ds
 | .frl ds=>some ds
 | .scr ds=>some ds
 | .ref n=>aH h n
 | _=>none
theorem t9 (r:aU K g α H h) (rd:aJ K g α H d x) (e:jw d h=some ds):∃p vs,x=.ref p/\(SqL K H p vs\/SqT K H p vs)/\ax K g α H ds vs:=by
 cases rd with
 | tup hq rs=>cases e;exact⟨_,_,rfl,.inr (SqT.of hq),rs⟩
 | frl hq rs=>cases e;exact⟨_,_,rfl,.inl hq.sq,rs⟩
 | scr hq rs=>cases e;exact⟨_,_,rfl,.inl hq.sq,rs⟩
 | ref hp=>obtain⟨vs,hv,rs⟩:=r.lst e hp;exact⟨_,vs,rfl,.inl (SqL.of hv),rs⟩
 | _=>cases e
noncomputable def dIx:D->D->Hh->R D:=fun a b h=>match jw a h,b with
 | some ds,.int i=>match atI ds i with
  | some d=>.ok d h
  | none=>.bad
 | _,_=>.bad
theorem yX (rs:ax K g α H ds vs) (e:atI ds i=some d):∃v,atI vs i=some v/\aJ K g α H d v:=by
 unfold atI at e ⊢
 rw[<- rs.length]
 cases e1:ixN ds.length i with
 | none=>simp_all
 | some j=>
  rw[e1] at e
  exact rs.get e
theorem K3:eV K g ε dIx (rIx K):=by
 intro α H h a b x y Q r ra rb w
 unfold dIx at w
 cases e1:jw a h with
 | none=>simp only[e1] at w;exact w.elim
 | some ds=>
  simp only[e1] at w
  obtain⟨p,vs,rfl,hq,rs⟩:=t9 r ra e1
  cases rb with
  | int i=>
   cases e2:atI ds i with
   | none=>simp only[e2] at w;exact w.elim
   | some d=>
    simp only[e2] at w
    obtain⟨v,ev,rv⟩:=yX rs e2
    rcases hq with hq | hq
    ·exact .inl ⟨p,vs,i,v,rfl,rfl,hq,ev,aS.now w r rv⟩
    ·exact .inr (.inl ⟨p,vs,i,v,rfl,rfl,hq,ev,aS.now w r rv⟩)
  | _=>exact w.elim
noncomputable def iQ:D->D->D->Hh->R Unit:=fun o i v h=>match o,i with
 | .ref n,.int k=>match aH h n with
  | some ds=>match ixN ds.length k with
   | some j=>.ok () (h.set n (.lst (ds.set j v)))
   | none=>.bad
  | none=>.bad
 | _,_=>.bad
theorem o_:JP K g ε iQ Fv:=by
 intro α H h o i v x y z Q r ro ri rv w
 unfold iQ at w
 cases ro with
 | @ref n p hp=>
  cases ri with
  | int k=>
   cases e1:aH h n with
   | none=>simp only[e1] at w;exact w.elim
   | some ds=>
    simp only[e1] at w
    cases e2:ixN ds.length k with
    | none=>simp only[e2] at w;exact w.elim
    | some j=>
     simp only[e2] at w
     obtain⟨vs,hv,rs⟩:=r.lst e1 hp
     refine⟨p,vs,k,j,rfl,rfl,hv,by rw[<- rs.length];exact e2,?_⟩
     have x:=Ext.write (o:=.lst (vs.set j z)) r hp
     exact w _ α x (r.write hp ⟨_,bH,(rs.set rv j).ext x⟩)
  | _=>exact w.elim
 | _=>exact w.elim
noncomputable def cutD (xs:List D) (lo hi:Option Int):List D:=(xs.drop (HT.sIx xs.length 0 lo)).take (HT.sIx xs.length xs.length hi - HT.sIx xs.length 0 lo)
theorem k6 (rs:ax K g α H ds vs) (lo hi):ax K g α H (cutD ds lo hi) (p8 vs lo hi):=by
 unfold cutD p8
 rw[<- rs.length]
 exact(rs.drop _).take _
noncomputable abbrev MO:=En->Hh->R (Option Int)
noncomputable def cR:MO:=fun _ h=>.ok none h
noncomputable def dY (a:ME):MO:=fun env h=>(a env h).bind fun d h1=>match d with
 | .int i=>.ok (some i) h1
 | _=>.bad
noncomputable def tMO (K:gV) (g:GG) (ε:EE) (m:MO):TO:=fun σ H Q=>∃α env h,dM K g α H env σ h/\WQ K g ε α H (m env h) fun o h'=>∀H' α',Ext K α H α' H'->aU K g α' H' h'->Q o H'
theorem PO.imp (h:PO X e t) (i:∀σ H Q,t' σ H Q->t σ H Q):PO X e t':=fun pins s σ H Q I w=>h pins s σ H Q I (i σ H Q w)
theorem iL:PO X none (tMO X.K g ε cR):=PO.imp DP fun σ H Q ⟨α,env,h,s,w⟩=>w H α Ext.refl s.heap
theorem fq {e:Expr}{me:ME} (he:PE X e (tM X.K g ε me)):PO X (some e) (tMO X.K g ε (dY me)):=PO.imp (Fp he) fun σ H Q ⟨α,env,h,s,w⟩=>tM.use s w.bind fun d1 h1 v1 H1 α1 e1 s1 r1 w1=>by
 cases r1 with
 | int i=>exact⟨i,rfl,w1 H1 α1 e1 s1.heap⟩
 | _=>exact w1.elim
noncomputable def zG (nl:NL):D->Option Int->Option Int->Hh->R D:=fun d lo hi h=>match d with
 | .tup ds=>.ok (.tup (cutD ds lo hi)) h
 | .frl ds=>nl (cutD ds lo hi) h
 | .scr ds=>nl (cutD ds lo hi) h
 | .ref n=>match aH h n with
  | some ds=>nl (cutD ds lo hi) h
  | none=>.bad
 | _=>.bad
noncomputable def cY (nl:NL) (a:ME) (l u:MO):ME:=fun env h=>(a env h).bind fun x h1=>(l env h1).bind fun lo h2=>(u env h2).bind fun hi h3=>zG nl x lo hi h3
theorem tMO.use (s:dM K g α H env σ h) (w:WQ K g ε α H (m env h) k)
  (q:∀d h' H' α',Ext K α H α' H'->dM K g α' H' env σ h'->k d h'->Q d H'):tMO K g ε m σ H Q:=
 ⟨α,env,h,s,w.mono fun d h' _ kk H' α' e r=>q d h' H' α' e (s.ext e r) kk⟩
theorem fk {nl:NL} [ky nl]{e:Expr}{me:ME}{lo hi:Option Expr}{ml mh:MO}{p2 pos:Pos} (he:PE X e (tM X.K g ε me)) (hl:PO X lo (tMO X.K g ε ml)) (hu:PO X hi (tMO X.K g ε mh)):PE X (.Subscript e (.Slice lo hi none p2) pos) (tM X.K g ε (cY nl me ml mh)):=
 PE.imp (PE.frz (A9 (SlR.or DZ (SlR.or Gi Fd)) he hl hu)) fun σ H Q ⟨α,env,h,s,w⟩=>tM.use s w.bind fun d1 h1 v1 H1 α1 e1 s1 r1 w1=>tMO.use s1 (w1.ext e1).bind fun o2 h2 H2 α2 e2 s2 w2=>tMO.use s2 (w2.ext e2).bind fun o3 h3 H3 α3 e3 s3 w3=>by
  have tr:=e1.trans (e2.trans e3)
  have r3:=r1.ext (e2.trans e3)
  have w4:=(w3.ext e3).mono fun _ _ _ p=>aS.ext tr p
  unfold zG at w4
  cases r3 with
  | @frl ds p vs hq rs=>exact .inl ⟨_,_,rfl,hq.sq,fun l hl=>NL.post w4 s3.heap (k6 rs _ _) hl⟩
  | @scr ds p vs hq rs=>exact .inl ⟨_,_,rfl,hq.sq,fun l hl=>NL.post w4 s3.heap (k6 rs _ _) hl⟩
  | @ref n p hp=>
   cases e1:aH h3 n with
   | none=>simp only[e1] at w4;exact w4.elim
   | some ds=>
    simp only[e1] at w4
    obtain⟨vs,hv,rs⟩:=s3.heap.lst e1 hp
    exact .inl ⟨_,_,rfl,SqL.of hv,fun l hl=>NL.post w4 s3.heap (k6 rs _ _) hl⟩
  | @tup ds p vs hq rs=>
   refine .inr ?_
   by_cases hw:HT.sIx vs.length 0 o2=0/\HT.sIx vs.length vs.length o3=vs.length
   ·refine .inr ⟨_,_,rfl,SqT.of hq,hw.1,hw.2,?_⟩
    refine aS.Au w4 s3.heap (.tup hq ?_)
    have:p8 vs o2 o3=vs:=by unfold p8;simp_all
    have q:=k6 rs o2 o3
    simp_all
   ·exact .inl ⟨_,_,rfl,SqT.of hq,hw,fun l hl=>.inl (aS.tup w4 s3.heap (k6 rs _ _) hl)⟩
  | _=>exact w4.elim
end
noncomputable def fX:D->Bool
 | .non=>true | .bl _=>true | .int _=>true | .str _=>true
 | _=>false
noncomputable def eqF:D->D->Bool
 | .non,.non=>true
 | .bl a,.bl b=>a == b
 | .bl a,.int b=>(if a then 1 else 0) == b
 | .int a,.bl b=>a == (if b then 1 else 0)
 | .int a,.int b=>a == b
 | .str a,.str b=>a == b
 | _,_=>false
noncomputable def eqL (f:D->D->Option Bool):List D->List D->Option Bool
 | x::xs,y::ys=>match f x y,eqL f xs ys with
  | some b,some c=>some (b&&c)
  | _,_=>none
 | [],[]=>some true
 | _,_=>some false
inductive Vw where
 | fl | tp (ds:List D) | ls (ds:List D) | no
noncomputable def vw (d:D) (h:Hh):Vw:=match d with
 | .non=>.fl | .bl _=>.fl | .int _=>.fl | .str _=>.fl
 | .tup ds=>.tp ds
 | .frl ds=>.ls ds
 | .scr ds=>.ls ds
 | .ref n=>match aH h n with
  | some ds=>.ls ds
  | none=>.no
 | _=>.no
noncomputable def eqD:Nat->Hh->D->D->Option Bool
 | 0,_,_,_=>none
 | k+1,h,a,b=>match vw a h,vw b h with
  | .fl,.fl=>some (eqF a b)
  | .tp xs,.tp ys=>eqL (eqD k h) xs ys
  | .ls xs,.ls ys=>if xs.length=ys.length then eqL (eqD k h) xs ys else some false
  | .fl,.tp _=>some false
  | .fl,.ls _=>some false
  | .tp _,.fl=>some false
  | .tp _,.ls _=>some false
  | .ls _,.fl=>some false
  | .ls _,.tp _=>some false
  | _,_=>none
section
variable {K:gV}{g:GG}{α:List Addr}{H:Hp}{h:Hh}
theorem n4 {f:D->D->Option Bool} (hf:∀a b x c,aJ K g α H a x->aJ K g α H b x->f a b=some c->c=true):∀{xs ys:List D}{vs:List V}{c:Bool},ax K g α H xs vs->ax K g α H ys vs->eqL f xs ys=some c->c=true
 | _,_,_,_,.nil,.nil,e=>by simp[eqL] at e;exact e
 | _,_,_,c,.cons r t,.cons r' t',e=>by
  unfold eqL at e
  split at e
  ·rename_i b c' h1 h2
   have e1:=hf _ _ _ _ r r' h1
   have e2:=n4 hf t t' h2
   simp_all
  grind
theorem nO {d:D}{x:V} (rd:aJ K g α H d x) (e:vw d h=.fl):fX d=true:=by
 cases rd with
 | ref hp=>unfold vw at e;simp only at e;split at e<;>cases e
 | _=>first | rfl | cases e
theorem mN (rd:aJ K g α H d x) (e:vw d h=.tp ds):∃p vs,x=.ref p/\SqT K H p vs/\ax K g α H ds vs:=by
 cases rd with
 | tup hp rs=>cases e;exact⟨_,_,rfl,SqT.of hp,rs⟩
 | ref hp=>unfold vw at e;grind
 | _=>cases e
theorem mD (r:aU K g α H h) (rd:aJ K g α H d x) (e:vw d h=.ls ds):∃p vs,x=.ref p/\SqL K H p vs/\ax K g α H ds vs:=by
 cases rd with
 | frl hp rs=>cases e;exact⟨_,_,rfl,hp.sq,rs⟩
 | scr hp rs=>cases e;exact⟨_,_,rfl,hp.sq,rs⟩
 | @ref n p hp=>
  unfold vw at e
  simp only at e
  cases el:aH h n with
  | none=>simp_all
  | some ds'=>
   rw[el] at e;cases e
   obtain⟨vs,hv,rs⟩:=r.lst el hp
   exact⟨_,_,rfl,SqL.of hv,rs⟩
 | _=>cases e
theorem yr {f:D->D->Option Bool}:∀{xs ys:List D}{c:Bool},eqL f xs ys=some c →
  (∀(j:Nat) (x y:D),xs[j]?=some x->ys[j]?=some y->∃b,f x y=some b)/\c=((ND (min xs.length ys.length)).all (fun j=>((f (xs.getD j .non) (ys.getD j .non)).getD false))&&xs.length == ys.length)
 | [],[],c,e=>by
  simp[eqL] at e
  simp[<- e]
 | [],_::_,c,e=>by
  simp[eqL] at e
  exact⟨fun j x y h=>by simp at h,by simp[<- e]⟩
 | _::_,[],c,e=>by
  simp[eqL] at e
  exact⟨fun j x y _ h=>by simp at h,by simp[<- e]⟩
 | x::xs,y::ys,c,e=>by
  unfold eqL at e
  split at e
  ·rename_i b c' h1 h2
   obtain⟨q1,q2⟩:=yr h2
   refine⟨fun j x' y' hx hy=>?_,?_⟩
   ·cases j with
    | zero=>simp at hx hy;subst hx hy;exact⟨b,h1⟩
    | succ j=>exact q1 j x' y' (by simpa using hx) (by simpa using hy)
   ·have e':=(Oz e).symm
    rw[e',q2]
    have hm:min (x::xs).length (y::ys).length=min xs.length ys.length+1:=by simp[Nat.succ_min_succ]
    rw[hm,List.range_succ_eq_map,Qh,List.all_map]
    have h0:(f ((x::xs).getD 0 .non) ((y::ys).getD 0 .non)).getD false=b:=by
     show(f x y).getD false=b
     rw[h1];rfl
    rw[h0]
    have hlen:((x::xs).length == (y::ys).length)=(xs.length == ys.length):=by simp
    rw[hlen,Bool.and_assoc]
    rfl
  ·cases e
end
section
variable {X:Cx}{g:GG}{pins:List (Addr × Obj)}{σ:St}{H:Hp}{s:NF}{α:List Addr}{h:Hh}
open PySem.SeqAt
theorem EB {K:gV} (ra:aJ K g α H a x) (rb:aJ K g α H b y) (ru:RelV x u) (rv:RelV y v) (fa:fX a=true) (fb:fX b=true) :
  EqAt A s u v (eqF a b)/\RcAt A s u v (eqF a b)/\SX A s u v (!eqF a b):=by
 cases ra with
 | non=>
  cases ru
  cases rb with
  | non=>cases rv;exact⟨.same _,.none_none,.none_none⟩
  | bl z=>cases rv;exact⟨.none_bool z,.none_bool z,.none_bool z⟩
  | int z=>obtain⟨t,rfl⟩:=rv;exact⟨.none_int z t,.none_int z t,.none_int z t⟩
  | str z=>obtain⟨t,rfl⟩:=rv;exact⟨.none_str z t,.none_str z t,.none_str z t⟩
  | _=>cases fb
 | bl q=>
  cases ru
  cases rb with
  | non=>cases rv;exact⟨.bool_none q,.bool_none q,.bool_none q⟩
  | bl z=>cases rv;exact⟨.bool_bool q z,.bool_bool q z,.bool_bool q z⟩
  | int z=>obtain⟨t,rfl⟩:=rv;exact⟨.bool_int q z t,.bool_int q z t,.bool_int q z t⟩
  | str z=>obtain⟨t,rfl⟩:=rv;exact⟨.bool_str q z t,.bool_str q z t,.bool_str q z t⟩
  | _=>cases fb
 | int q=>
  obtain⟨t',rfl⟩:=ru
  cases rb with
  | non=>cases rv;exact⟨.int_none q t',.int_none q t',.int_none q t'⟩
  | bl z=>cases rv;exact⟨.int_bool q t' z,.int_bool q t' z,.int_bool q t' z⟩
  | int z=>obtain⟨t,rfl⟩:=rv;exact⟨.int_int q t' z t,.int_int q t' z t,.int_int q t' z t⟩
  | str z=>obtain⟨t,rfl⟩:=rv;exact⟨.int_str q t' z t,.int_str q t' z t,.int_str q t' z t⟩
  | _=>cases fb
 | str q=>
  obtain⟨t',rfl⟩:=ru
  cases rb with
  | non=>cases rv;exact⟨.str_none q t',.str_none q t',.str_none q t'⟩
  | bl z=>cases rv;exact⟨.str_bool q t' z,.str_bool q t' z,.str_bool q t' z⟩
  | int z=>obtain⟨t,rfl⟩:=rv;exact⟨.str_int q t' z t,.str_int q t' z t,.str_int q t' z t⟩
  | str z=>obtain⟨t,rfl⟩:=rv;exact⟨.str_str q t' z t,.str_str q t' z t,.str_str q t' z t⟩
  | _=>cases fb
 | _=>cases fa
theorem wa {K:gV} (ht:s.heap.IsTuple p its) (hu:A.units<cLine) (rb:aJ K g α H b y) (rv:RelV y v) (fb:fX b=true) :
  (EqAt A s (.ref p) v false/\RcAt A s (.ref p) v false/\SX A s (.ref p) v true)/\(EqAt A s v (.ref p) false/\RcAt A s v (.ref p) false/\SX A s v (.ref p) true):=by
 cases rb with
 | non=>cases rv;exact⟨⟨.tuple_none ht hu,.tuple_none ht hu,.tuple_none ht hu⟩,.none_tuple ht hu,.none_tuple ht hu,.none_tuple ht hu⟩
 | bl z=>cases rv;exact⟨⟨.tuple_bool z ht hu,.tuple_bool z ht hu,.tuple_bool z ht hu⟩,.bool_tuple z ht hu,.bool_tuple z ht hu,.bool_tuple z ht hu⟩
 | int z=>obtain⟨t,rfl⟩:=rv;exact⟨⟨.tuple_int z t ht hu,.tuple_int z t ht hu,.tuple_int z t ht hu⟩,.int_tuple z t ht hu,.int_tuple z t ht hu,.int_tuple z t ht hu⟩
 | str z=>obtain⟨t,rfl⟩:=rv;exact⟨⟨.tuple_str z t ht hu,.tuple_str z t ht hu,.tuple_str z t ht hu⟩,.str_tuple z t ht hu,.str_tuple z t ht hu,.str_tuple z t ht hu⟩
 | _=>cases fb
theorem wt {K:gV} (ht:s.heap.IsList p its) (hu:A.units<cLine) (rb:aJ K g α H b y) (rv:RelV y v) (fb:fX b=true) :
  (EqAt A s (.ref p) v false/\RcAt A s (.ref p) v false/\SX A s (.ref p) v true)/\(EqAt A s v (.ref p) false/\RcAt A s v (.ref p) false/\SX A s v (.ref p) true):=by
 cases rb with
 | non=>cases rv;exact⟨⟨.list_none ht hu,.list_none ht hu,.list_none ht hu⟩,.none_list ht hu,.none_list ht hu,.none_list ht hu⟩
 | bl z=>cases rv;exact⟨⟨.list_bool z ht hu,.list_bool z ht hu,.list_bool z ht hu⟩,.bool_list z ht hu,.bool_list z ht hu,.bool_list z ht hu⟩
 | int z=>obtain⟨t,rfl⟩:=rv;exact⟨⟨.list_int z t ht hu,.list_int z t ht hu,.list_int z t ht hu⟩,.int_list z t ht hu,.int_list z t ht hu,.int_list z t ht hu⟩
 | str z=>obtain⟨t,rfl⟩:=rv;exact⟨⟨.list_str z t ht hu,.list_str z t ht hu,.list_str z t ht hu⟩,.str_list z t ht hu,.str_list z t ht hu,.str_list z t ht hu⟩
 | _=>cases fb
theorem we {A:Om}{k:Nat}{ds es:List D}{vs us:List V}{its jts:List NB}{c:Bool} (r:aU X.K g α H h)
  (ih:∀(a b:D) (x y:V) (u v:NB) (c:Bool),aJ X.K g α H a x->aJ X.K g α H b y->RelV x u->RelV y v->eqD k h a b=some c->EqAt A.in1 s u v c)
  (rs:ax X.K g α H ds vs) (rt:ax X.K g α H es us) (rv:Vals vs its) (ru:Vals us jts) (e:eqL (eqD k h) ds es=some c) :
  (∀j (h1:j<its.toArray.size) (h2:j<jts.toArray.size),EqAt A.in1 s its.toArray[j] jts.toArray[j] ((fun(j:Nat)=>(eqD k h (ds.getD j .non) (es.getD j .non)).getD false) j)) ∧
  c=((ND (min its.toArray.size jts.toArray.size)).all (fun(j:Nat)=>(eqD k h (ds.getD j .non) (es.getD j .non)).getD false)&&its.toArray.size == jts.toArray.size):=by
 obtain⟨q1,q2⟩:=yr e
 have l1:its.toArray.size=ds.length:=by rw[N5,<- rv.length,rs.length]
 have l2:jts.toArray.size=es.length:=by rw[N5,<- ru.length,rt.length]
 refine⟨fun j h1 h2=>?_,by rw[l1,l2];exact q2⟩
 have hd:ds[j]?=some (ds.getD j .non):=by rw[OE,NM (by lia)];rfl
 have he:es[j]?=some (es.getD j .non):=by rw[OE,NM (by lia)];rfl
 obtain⟨b,hb⟩:=q1 j _ _ hd he
 obtain⟨x,hx,rx⟩:=rs.get hd
 obtain⟨y,hy,ry⟩:=rt.get he
 obtain⟨u,hu,rxu⟩:=rv.get hx
 obtain⟨v,hv,ryv⟩:=ru.get hy
 have eu:its.toArray[j]=u:=by
  have:=NM (by simpa using h1)
  rw[hu] at this
  simpa using(Oz this).symm
 have ev:jts.toArray[j]=v:=by
  have:=NM (by simpa using h2)
  rw[hv] at this
  simpa using(Oz this).symm
 rw[eu,ev]
 show EqAt A.in1 s u v ((eqD k h (ds.getD j .non) (es.getD j .non)).getD false)
 rw[hb]
 exact ih _ _ _ _ _ _ _ rx ry rxu ryv hb
theorem zt (I:Inv X pins σ H s) (a:SqT X.K H p vs) (b:SqL X.K H p us):False:=by
 obtain⟨its,r1,⟨o,e,c,_⟩,_⟩:=I.tuple a
 obtain⟨jts,r2,⟨o',n',e',c',_⟩,_⟩:=I.list b
 simp_all
theorem oD (I:Inv X pins σ H s) (r:aU X.K g α H h):∀(k:Nat) (a b:D) (x:V) (c:Bool),aJ X.K g α H a x->aJ X.K g α H b x->eqD k h a b=some c->c=true
 | 0,_,_,_,_,_,_,e=>by cases e
 | k+1,a,b,x,c,ra,rb,e=>by
  unfold eqD at e
  cases ea:vw a h with
  | no=>simp_all
  | fl=>
   have fa:=nO ra ea
   cases eb:vw b h with
   | no=>simp_all
   | fl=>
    simp only[ea,eb] at e
    cases e
    cases ra with
    | non=>cases rb with
     | non=>rfl
    | bl z=>cases rb with
     | bl _=>simp[eqF]
    | int z=>cases rb with
     | int _=>simp[eqF]
    | str z=>cases rb with
     | str _=>simp[eqF]
    | _=>cases fa
   | tp ds=>obtain⟨p,vs,rfl,_⟩:=mN rb eb;cases ra<;>cases fa
   | ls ds=>obtain⟨p,vs,rfl,_⟩:=mD r rb eb;cases ra<;>cases fa
  | tp da=>
   obtain⟨p,va,rfl,hp,rs⟩:=mN ra ea
   cases eb:vw b h with
   | no=>simp_all
   | fl=>have fb:=nO rb eb;cases rb<;>cases fb
   | tp db=>
    simp only[ea,eb] at e
    obtain⟨q,vb,hpq,hq,rt⟩:=mN rb eb
    cases hpq
    have:=I.lX hp hq
    subst this
    exact n4 (fun a b x c=>oD I r k a b x c) rs rt e
   | ls db=>
    obtain⟨q,vb,hpq,hq,rt⟩:=mD r rb eb
    cases hpq
    exact(zt I hp hq).elim
  | ls da=>
   obtain⟨p,va,rfl,hp,rs⟩:=mD r ra ea
   cases eb:vw b h with
   | no=>simp_all
   | fl=>have fb:=nO rb eb;cases rb<;>cases fb
   | tp db=>
    obtain⟨q,vb,hpq,hq,rt⟩:=mN rb eb
    cases hpq
    exact(zt I hq hp).elim
   | ls db=>
    simp only[ea,eb] at e
    obtain⟨q,vb,hpq,hq,rt⟩:=mD r rb eb
    cases hpq
    have:=I.pM hp hq
    subst this
    rw[if_pos (by rw[rs.length,rt.length])] at e
    exact n4 (fun a b x c=>oD I r k a b x c) rs rt e
theorem xh (I:Inv X pins σ H s) (r:aU X.K g α H h):∀(k:Nat) (A:Om) (a b:D) (x y:V) (u v:NB) (c:Bool),A.units+k<cLine->aJ X.K g α H a x->aJ X.K g α H b y->RelV x u->RelV y v->eqD k h a b=some c →
  EqAt A s u v c/\RcAt A s u v c/\SX A s u v (!c)
 | 0,_,_,_,_,_,_,_,_,_,_,_,_,_,e=>by cases e
 | k+1,A,a,b,x,y,u,v,c,hu,ra,rb,ru,rv,e=>by
  have hu0:A.units<cLine:=by lia
  have ih:∀(a b:D) (x y:V) (u v:NB) (c:Bool),aJ X.K g α H a x->aJ X.K g α H b y->RelV x u->RelV y v->eqD k h a b=some c->EqAt A.in1 s u v c:=
   fun a b x y u v c h1 h2 h3 h4 h5=>(xh I r k A.in1 a b x y u v c (by grind) h1 h2 h3 h4 h5).1
  have whole:=fun x ra rb=>oD I r (k+1) a b x c ra rb e
  unfold eqD at e
  cases ea:vw a h with
  | no=>simp_all
  | fl=>
   have fa:=nO ra ea
   cases eb:vw b h with
   | no=>simp_all
   | fl=>simp only[ea,eb] at e;cases e;exact EB ra rb ru rv fa (nO rb eb)
   | tp db=>
    simp only[ea,eb] at e;cases e
    obtain⟨q,vb,rfl,hq,rt⟩:=mN rb eb
    cases rv
    obtain⟨its,r1,ht,_⟩:=I.tuple hq
    exact(wa ht hu0 ra ru fa).2
   | ls db=>
    simp only[ea,eb] at e;cases e
    obtain⟨q,vb,rfl,hq,rt⟩:=mD r rb eb
    cases rv
    obtain⟨its,r1,ht,_⟩:=I.list hq
    exact(wt ht.isList hu0 ra ru fa).2
  | tp da=>
   obtain⟨p,va,rfl,hp,rs⟩:=mN ra ea
   cases ru
   obtain⟨its,r1,ht,_⟩:=I.tuple hp
   cases eb:vw b h with
   | no=>simp_all
   | fl=>simp only[ea,eb] at e;cases e;exact(wa ht hu0 rb rv (nO rb eb)).1
   | tp db=>
    simp only[ea,eb] at e
    obtain⟨q,vb,rfl,hq,rt⟩:=mN rb eb
    cases rv
    obtain⟨jts,r2,ht2,_⟩:=I.tuple hq
    obtain⟨h1,h2⟩:=we r ih rs rt r1 r2 e
    have rc:RcAt A s (.ref p) (.ref q) c:=by rw[h2];exact RcAt.tuples ht ht2 hu0 h1
    refine⟨?_,rc,by rw[h2];exact SX.tuples ht ht2 hu0 h1⟩
    by_cases hpq:p=q
    ·subst hpq
     rw[whole _ ra rb]
     exact .same _
    ·exact .of_refs hpq rc
   | ls db=>
    simp only[ea,eb] at e;cases e
    obtain⟨q,vb,rfl,hq,rt⟩:=mD r rb eb
    cases rv
    obtain⟨jts,r2,ht2,_⟩:=I.list hq
    exact⟨.tuple_list ht ht2.isList hu0,.tuple_list ht ht2.isList hu0,.tuple_list ht ht2.isList hu0⟩
  | ls da=>
   obtain⟨p,va,rfl,hp,rs⟩:=mD r ra ea
   cases ru
   obtain⟨its,r1,ht',_⟩:=I.list hp
   have ht:=ht'.isList
   cases eb:vw b h with
   | no=>simp_all
   | fl=>simp only[ea,eb] at e;cases e;exact(wt ht hu0 rb rv (nO rb eb)).1
   | tp db=>
    simp only[ea,eb] at e;cases e
    obtain⟨q,vb,rfl,hq,rt⟩:=mN rb eb
    cases rv
    obtain⟨jts,r2,ht2,_⟩:=I.tuple hq
    exact⟨.list_tuple ht ht2 hu0,.list_tuple ht ht2 hu0,.list_tuple ht ht2 hu0⟩
   | ls db=>
    simp only[ea,eb] at e
    obtain⟨q,vb,rfl,hq,rt⟩:=mD r rb eb
    cases rv
    obtain⟨jts,r2,ht2',_⟩:=I.list hq
    have ht2:=ht2'.isList
    have l1:its.toArray.size=da.length:=by rw[N5,<- r1.length,rs.length]
    have l2:jts.toArray.size=db.length:=by rw[N5,<- r2.length,rt.length]
    have fin:RcAt A s (.ref p) (.ref q) c/\SX A s (.ref p) (.ref q) (!c):=by
     by_cases hl:da.length=db.length
     ·rw[if_pos hl] at e
      obtain⟨h1,h2⟩:=we r ih rs rt r1 r2 e
      have hsz:its.toArray.size=jts.toArray.size:=by lia
      have h2':c=(ND its.toArray.size).all (fun(j:Nat)=>(eqD k h (da.getD j .non) (db.getD j .non)).getD false):=by
       simp_all
      exact⟨by rw[h2'];exact RcAt.lists ht ht2 hsz hu0 h1,by rw[h2'];exact SX.lists ht ht2 hsz hu0 h1⟩
     ·rw[if_neg hl] at e
      have e2:c=false:=(Oz e).symm
      have hsz:(its.toArray.size != jts.toArray.size)=true:=by
       simp_all
      rw[e2]
      exact⟨RcAt.lists_lengths ht ht2 hsz hu0,SX.lists_lengths ht ht2 hsz hu0⟩
    refine⟨?_,fin⟩
    by_cases hpq:p=q
    ·subst hpq
     rw[whole _ ra rb]
     exact .same _
    ·exact .of_refs hpq fin.1
noncomputable abbrev eqN:Nat:=12
noncomputable def dEq:D->D->Hh->R D:=fun a b h=>match eqD eqN h a b with
 | some c=>.ok (.bl c) h
 | none=>.bad
noncomputable def dNe:D->D->Hh->R D:=fun a b h=>match eqD eqN h a b with
 | some c=>.ok (.bl (!c)) h
 | none=>.bad
noncomputable def Fn (K:gV) (g:GG) (neg:Bool):R2:=fun x y H Q=>∃α h a b c,aU K g α H h/\aJ K g α H a x/\aJ K g α H b y/\eqD eqN h a b=some c/\Q (.bl (if neg then !c else c)) H
theorem iu (hu:X.A.units+64<cLine):OpR X (compareOp .Eq) (Fn X.K g false):=by
 intro pins s σ H x y v u Q I rx ry ⟨α,h,a,b,c,r,ra,rb,e,q⟩
 exact(xh I r eqN X.A a b x y v u c (by grind) ra rb rx ry e).2.1 _ _ _ _ ⟨.bl c,H,I,rfl,q⟩
theorem dz (hu:X.A.units+64<cLine):OpR X (compareOp .NotEq) (Fn X.K g true):=by
 intro pins s σ H x y v u Q I rx ry ⟨α,h,a,b,c,r,ra,rb,e,q⟩
 exact(xh I r eqN X.A a b x y v u c (by grind) ra rb rx ry e).2.2 _ _ _ _ ⟨.bl (!c),H,I,rfl,q⟩
theorem kY {K:gV}:eV K g ε dEq (Fn K g false):=by
 intro α H h a b x y Q r ra rb w
 unfold dEq at w
 cases e:eqD eqN h a b with
 | none=>simp only[e] at w;exact w.elim
 | some c=>simp only[e] at w;exact⟨α,h,a,b,c,r,ra,rb,e,aS.now w r (.bl _)⟩
theorem fE {K:gV}:eV K g ε dNe (Fn K g true):=by
 intro α H h a b x y Q r ra rb w
 unfold dNe at w
 cases e:eqD eqN h a b with
 | none=>simp only[e] at w;exact w.elim
 | some c=>simp only[e] at w;exact⟨α,h,a,b,c,r,ra,rb,e,aS.now w r (.bl _)⟩
end
section
variable {X:Cx}{K:gV}{g:GG}{ε:EE}
noncomputable def b_:List D->Hh->R D:=fun ds h=>match ds with
 | [.tup ds]=>.ok (.int ds.length) h
 | [.frl ds]=>.ok (.int ds.length) h
 | [.scr ds]=>.ok (.int ds.length) h
 | [.str x]=>if x.length<=1000000 then .ok (.int x.length) h else .bad
 | [.ref n]=>match h[n]? with
  | some (.lst ds)=>.ok (.int ds.length) h
  | some (.set k)=>.ok (.int k.length) h
  | _=>.bad
 | _=>.bad
noncomputable abbrev Fz (K:gV):List V->Hp->VK->Prop:=fun xs H Q=>(∃p ys,xs=[.ref p]/\(SqL K H p ys\/SqT K H p ys)/\Q (.int ys.length) H)\/(∃p S n,xs=[.ref p]/\H p=some (.set S n)/\Q (.int n) H)\/∃z,xs=[.str z]/\z.length<=sizeLine/\Q (.int z.length) H
theorem bC:cb X (.builtin "len") (Fz X.K):=cb.or tR (cb.or qD tm)
theorem ow {f:List D->Hh->R D} (hf:∀d e r h,f (d::e::r) h=.bad) (hf0:∀h,f [] h=.bad) (rs:ax K g α H ds vs) (w:WQ K g ε α H (f ds h) (aS K g α H Q)):∃d v,ds=[d]/\vs=[v]/\aJ K g α H d v:=by
 cases rs with
 | nil=>rw[hf0] at w;exact w.elim
 | cons r t=>
  cases t with
  | nil=>simp_all
  | cons _ _=>rw[hf] at w;exact w.elim
theorem bE:mj K g ε b_ (Fz K):=by
 intro α H h a x Q r ra w
 obtain⟨d,v,rfl,rfl,rd⟩:=ow (fun d _ _ _=>by cases d<;>rfl) (fun _=>rfl) ra w
 unfold b_ at w
 cases rd with
 | tup hp rs=>exact .inl ⟨_,_,rfl,.inr (SqT.of hp),aS.now w r (by rw[<- rs.length];exact .int _)⟩
 | frl hp rs=>exact .inl ⟨_,_,rfl,.inl hp.sq,aS.now w r (by rw[<- rs.length];exact .int _)⟩
 | scr hp rs=>exact .inl ⟨_,_,rfl,.inl hp.sq,aS.now w r (by rw[<- rs.length];exact .int _)⟩
 | str z=>
  obtain⟨hl,w⟩:=WQ.gj w
  exact .inr (.inr ⟨z,rfl,iC hl,aS.now w r (.int _)⟩)
 | @ref n p hp=>
  simp only at w
  cases e:h[n]? with
  | none=>rw[e] at w;exact w.elim
  | some o=>
   rw[e] at w
   have q:=r.here n p o hp e
   cases o with
   | lst ds=>obtain⟨vs,hv,rs⟩:=q;exact .inl ⟨p,vs,rfl,.inl (SqL.of hv),aS.now w r (by rw[<- rs.length];exact .int _)⟩
   | set k=>exact .inr (.inl ⟨p,_,_,rfl,q,aS.now w r (.int _)⟩)
   | dic k=>exact w.elim
   | dit k=>exact w.elim
 | _=>exact w.elim
noncomputable def oQ:List D->Hh->R D:=fun ds h=>match ds with
 | [.tup ds]=>.ok (.tup ds) h
 | [.frl ds]=>.ok (.tup ds) h
 | [.ref n]=>match aH h n with
  | some ds=>.ok (.tup ds) h
  | none=>.bad
 | _=>.bad
theorem uO:mj K g ε oQ (fun xs H Q=>∃p ys,xs=[.ref p]/\((SqL K H p ys/\∀l,H l=none->Q (.ref l) (upd H l (.tup ys)))\/(SqT K H p ys/\Q (.ref p) H))):=by
 intro α H h a x Q r ra w
 obtain⟨d,v,rfl,rfl,rd⟩:=ow (fun d _ _ _=>by cases d<;>rfl) (fun _=>rfl) ra w
 unfold oQ at w
 cases rd with
 | tup hp rs=>exact⟨_,_,rfl,.inr ⟨SqT.of hp,aS.now w r (.tup hp rs)⟩⟩
 | frl hp rs=>exact⟨_,_,rfl,.inl ⟨hp.sq,fun l hl=>aS.tup w r rs hl⟩⟩
 | @ref n p hp=>
  simp only at w
  cases e:aH h n with
  | none=>rw[e] at w;exact w.elim
  | some ds=>
   rw[e] at w
   obtain⟨vs,hv,rs⟩:=r.lst e hp
   exact⟨p,vs,rfl,.inl ⟨SqL.of hv,fun l hl=>aS.tup w r rs hl⟩⟩
 | _=>exact w.elim
noncomputable def intsOf:List D->Option (List Int)
 | []=>some []
 | .int i::ds=>(intsOf ds).map (i::·)
 | _::_=>none
theorem gH:∀{ds:List D}{ns:List Int},intsOf ds=some ns->ds=ns.map D.int
 | [],ns,e=>by cases e;rfl
 | .int i::ds,ns,e=>by
  unfold intsOf at e
  cases e1:intsOf ds with
  | none=>simp_all
  | some ms=>rw[e1] at e;cases e;rw[gH e1];rfl
 | .non::_,_,e=>by cases e
 | .bl _::_,_,e=>by cases e
 | .str _::_,_,e=>by cases e
 | .tup _::_,_,e=>by cases e
 | .frl _::_,_,e=>by cases e
 | .ref _::_,_,e=>by cases e
 | .fn _::_,_,e=>by cases e
 | .edic::_,_,e=>by cases e
 | .exc _ _::_,_,e=>by cases e
 | .clo _ _::_,_,e=>by cases e
 | .scr _::_,_,e=>by cases e
theorem iw:∀(ns:List Int),intsOf (ns.map D.int)=some ns
 | []=>rfl
 | n::r=>by rw[NV,intsOf,iw r];rfl
noncomputable def A_:List D->Hh->R D:=fun ds h=>match ds with
 | [.tup ds]=>match intsOf ds with
  | some ns=>if ns.length<=4000 then .ok (.ref h.length) (h++[.set (unl ns)]) else .bad
  | none=>.bad
 | _=>.bad
theorem G6:mj K g ε A_ (fun vs H Q=>∃p ns,vs=[.ref p]/\SqT K H p (ns.map V.int)/\ns.length+1<scanBound/\∀l,H l=none->Q (.ref l) (upd H l (.set (fun k=>(unl ns).any (· == k)) (unl ns).length))):=by
 intro α H h a x Q r ra w
 obtain⟨d,v,rfl,rfl,rd⟩:=ow (fun d _ _ _=>by cases d<;>rfl) (fun _=>rfl) ra w
 unfold A_ at w
 cases rd with
 | tup hp rs=>
  simp only at w
  cases e:intsOf _ with
  | none=>rw[e] at w;exact w.elim
  | some ns=>
   rw[e] at w
   obtain⟨hl,w⟩:=WQ.gj w
   have e2:=gH e
   subst e2
   have e3:=rs.C5
   subst e3
   refine⟨_,ns,rfl,SqT.of hp,by show ns.length+1<4096;lia,fun l hn=>?_⟩
   refine(show aS K g α H Q _ _ from w) _ _ (α++[l]) (Ext.push hn) (r.push hn bH) (.ref ?_)
   rw[<- r.len];simp
 | _=>exact w.elim
noncomputable def Di:List D->Hh->R D:=fun ds h=>match ds with
 | [.int i,.int j]=>.ok (.int (if j > i then j else i)) h
 | _=>.bad
noncomputable def yq:List D->Hh->R D:=fun ds h=>match ds with
 | [.int i,.int j]=>.ok (.int (if j<i then j else i)) h
 | _=>.bad
theorem uY {t:Int->Int->Int} (r:aU K g α H h) (rs:ax K g α H ds vs) (w:WQ K g ε α H (match ds with | [.int i,.int j]=>.ok (.int (t i j)) h | _=>.bad) (aS K g α H Q)):∃i j,vs=[.int i,.int j]/\Q (.int (t i j)) H:=by
 split at w
 ·cases rs with
  | cons r1 t1=>
   cases r1
   cases t1 with
   | cons r2 t2=>
    cases r2
    cases t2
    exact⟨_,_,rfl,aS.now w r (.int _)⟩
 ·exact w.elim
theorem DE:mj K g ε Di (fun xs H Q=>∃i j,xs=[.int i,.int j]/\Q (.int (if j > i then j else i)) H):=fun α H h a x Q r ra w=>uY r ra w
theorem D6:mj K g ε yq (fun xs H Q=>∃i j,xs=[.int i,.int j]/\Q (.int (if j<i then j else i)) H):=fun α H h a x Q r ra w=>uY r ra w
noncomputable def A0:List D->Hh->R D:=fun ds h=>match ds with
 | [.int i]=>.ok (.int i) h
 | [.bl b]=>.ok (.int (if b then 1 else 0)) h
 | _=>.bad
theorem BK:mj K g ε A0 (fun xs H Q=>(∃i,xs=[.int i]/\Q (.int i) H)\/∃k,xs=[.bl k]/\Q (.int (if k then 1 else 0)) H):=by
 intro α H h a x Q r ra w
 obtain⟨d,v,rfl,rfl,rd⟩:=ow (fun d _ _ _=>by cases d<;>rfl) (fun _=>rfl) ra w
 cases rd with
 | int i=>exact .inl ⟨i,rfl,aS.now w r (.int _)⟩
 | bl b=>exact .inr ⟨b,rfl,aS.now w r (.int _)⟩
 | _=>exact w.elim
noncomputable def tyD (d:D) (h:Hh):Option String:=match d with
 | .non=>some "NoneType"
 | .bl _=>some "bool"
 | .int _=>some "int"
 | .str _=>some "str"
 | .tup _=>some "tuple"
 | .frl _=>some "list"
 | .edic=>some "dict"
 | .ref n=>match h[n]? with
  | some (.lst _)=>some "list"
  | some (.dic _)=>some "dict"
  | some (.dit _)=>some "dict"
  | _=>none
 | _=>none
noncomputable def zk (t n:String):Option Bool:=
 if n="int" then (if t="int" then some true else if t="bool" then some true else if t="NoneType" \/ t="str" \/ t="tuple" \/ t="list" \/ t="dict" then some false else none)
 else if n="bool" \/ n="tuple" \/ n="list" \/ n="str" then (if t=n then some true else if t="int" \/ t="bool" \/ t="NoneType" \/ t="str" \/ t="tuple" \/ t="list" \/ t="dict" then some false else none)
 else none
noncomputable def sf (n:String):D->Hh->R D:=fun d h=>match tyD d h with
 | some t=>match zk t n with
  | some b=>.ok (.bl b) h
  | none=>.bad
 | none=>.bad
theorem Kl (r:aU K g α H h) (rd:aJ K g α H d v) (e:tyD d h=some t):ki K H v (.type t):=by
 unfold tyD at e
 cases rd with
 | non=>cases e;exact .non
 | bl b=>cases e;exact .bl b
 | int i=>cases e;exact .int i
 | str i=>cases e;exact .str i
 | tup hp rs=>cases e;exact .tup hp
 | frl hp rs=>cases e;obtain⟨o,hp⟩:=hp;exact .frz hp
 | edic hp=>cases e;exact .hZ hp
 | @ref n p hp=>
  simp only at e
  cases eo:h[n]? with
  | none=>simp_all
  | some o=>
   rw[eo] at e
   have q:=r.here n p o hp eo
   cases o with
   | lst ds=>cases e;obtain⟨vs,hv,_⟩:=q;exact .lst hv
   | set k=>cases e
   | dic k=>cases e;obtain⟨vs,hv,_⟩:=q;exact .dK hv
   | dit k=>cases e;obtain⟨vs,hv,_⟩:=q;exact .dT hv
 | _=>cases e
theorem E6 (K):Pn K (.type "int") (.type "int")=some true/\Pn K (.type "bool") (.type "int")=some true/\Pn K (.type "NoneType") (.type "int")=some false/\Pn K (.type "str") (.type "int")=some false
  /\ Pn K (.type "tuple") (.type "int")=some false/\Pn K (.type "list") (.type "int")=some false/\Pn K (.type "dict") (.type "int")=some false:=⟨rfl,rfl,rfl,rfl,rfl,rfl,rfl⟩
theorem GN (e:zk t n=some b):Pn K (.type t) (.type n)=some b:=by
 unfold zk at e
 obtain⟨a1,a2,a3,a4,a5,a6,a7⟩:=E6 K
 split at e
 ·grind
 ·split at e
  ·rename_i hn
   split at e
   ·rename_i h;subst h;rcases hn with rfl | rfl | rfl | rfl<;>assumption
   ·rename_i hne
    split at e
    ·rename_i h;rcases hn with rfl | rfl | rfl | rfl<;>rcases h with rfl | rfl | rfl | rfl | rfl | rfl | rfl<;>first | assumption | simp_all
    grind
  grind
theorem ud {e:Expr}{me:ME}{n:String}{x:Str}{p1 p2 pos:Pos} (he:PE X e (tM X.K g ε me)) (hg:Gl X "isinstance") (hm:X.mg "isinstance" = none) (hg2:Gl X x) (hm2:X.mg x=none) (hb:bootBuiltins x=some (.type n)) (hn:x≠"__name__" := by decide) (hd:(x == ("__debug__" : Str))=false:=by decide)
  (hs1:starEach [e,.Name x p2] X.env=(false,eval e X.env)::starEach [.Name x p2] X.env:=by rfl) (hs2:starEach [.Name x p2] X.env=[(false,eval (.Name x p2) X.env)]:=by rfl) (hpl:(backTo pos (starEach [.Name x p2] X.env)).any (·.1)=false:=by rfl) :
  PE X (.Call (.Name "isinstance" p1) [e,.Name x p2] [] pos) (tM X.K g ε (cUn (sf n) me)):=
 PE.imp (nN uE hg hm PyProof.Rows.boot_isinstance (jG he (jG (EK (v:=.ty n) hg2 hm2 hb rfl hn hd) nK hs2) hs1) (by decide) (by decide) hs1 hpl) fun σ H Q ⟨α,env,h,s,w⟩=>tM.use s w.bind fun d1 h1 v1 H1 α1 e1 s1 r1 w1=>by
  unfold sf at w1
  cases et:tyD d1 h1 with
  | none=>simp only[et] at w1;exact w1.elim
  | some t=>
   simp only[et] at w1
   cases es:zk t n with
   | none=>simp only[es] at w1;exact w1.elim
   | some b=>
    simp only[es] at w1
    exact⟨v1,.type t,n,b,rfl,Kl s1.heap r1 et,GN es,aS.now (aS.ext e1 w1) s1.heap (.bl b)⟩
end
section
variable {X:Cx}{K:gV}{g:GG}{ε:EE}
noncomputable def gS:D->Hh->R Bool:=fun d h=>match d with
 | .non=>.ok false h
 | .bl b=>.ok b h
 | .int i=>.ok (i != 0) h
 | .tup ds=>.ok (!ds.isEmpty) h
 | .frl ds=>.ok (!ds.isEmpty) h
 | .ref n=>match aH h n with
  | some ds=>.ok (!ds.isEmpty) h
  | none=>.bad
 | _=>.bad
theorem ax.isEmpty (r:ax K g α H ds vs):ds.isEmpty=vs.isEmpty:=by cases r<;>rfl
theorem gy:JR K g ε gS (fun x H Q=>∃k,ET K x H k/\Q k H):=by
 intro α H h a x Q r ra w
 unfold gS at w
 have now:∀{b:Bool},mF K g α H Q b h->Q b H:=fun p=>p H α Ext.refl r
 cases ra with
 | non=>exact⟨false,rfl,now w⟩
 | bl b=>exact⟨b,rfl,now w⟩
 | int i=>exact⟨_,rfl,now w⟩
 | tup hp rs=>exact⟨_,.inr (.inl ⟨_,SqT.of hp,rfl⟩),now (by rw[<- rs.isEmpty];exact w)⟩
 | frl hp rs=>exact⟨_,.inl ⟨_,hp.sq,rfl⟩,now (by rw[<- rs.isEmpty];exact w)⟩
 | @ref n p hp=>
  simp only at w
  cases e:aH h n with
  | none=>rw[e] at w;exact w.elim
  | some ds=>
   rw[e] at w
   obtain⟨vs,hv,rs⟩:=r.lst e hp
   exact⟨_,.inl ⟨vs,SqL.of hv,rfl⟩,now (by rw[<- rs.isEmpty];exact w)⟩
 | _=>exact w.elim
theorem Bp (r:aJ K g α H d v) (f:fX d=true):jZ v=true:=by
 cases r<;>first | rfl | cases f
theorem Ke (r:aJ K g α H d v) (q:aJ K g α H e u) (f:fX d=true) (f':fX e=true):eqF d e=eqV v u:=by
 cases r<;>first | (cases f;done) | (cases q<;>rfl)
theorem FR {α:List Addr}{H:Hp}:∀{ds:List D}{vs:List V},ax K g α H ds vs->ds.all fX=true->vs.all jZ=true
 | _,_,.nil,_=>rfl
 | _,_,.cons r t,f=>by
  rw[Qh,N_] at f ⊢
  exact⟨Bp r f.1,FR t f.2⟩
theorem FH (q:aJ K g α H e u) (f':fX e=true):∀{ds:List D}{vs:List V},ax K g α H ds vs->ds.all fX=true->(ds.any fun d=>eqF d e)=vs.any fun y=>eqV y u
 | _,_,.nil,_=>rfl
 | _,_,.cons r t,f=>by
  rw[Qh,N_] at f
  rw[QE,QE,Ke r q f.1 f',FH q f' t f.2]
noncomputable def dIn (neg:Bool):D->D->Hh->R D:=fun a b h=>match jw b h with
 | some ds=>if fX a=true/\ds.all fX=true then .ok (.bl (if neg then !(ds.any fun d=>eqF d a) else ds.any fun d=>eqF d a)) h else .bad
 | none=>.bad
theorem yc:eV K g ε (dIn neg) (rIn K neg):=by
 intro α H h a b x y Q r ra rb w
 unfold dIn at w
 cases e:jw b h with
 | none=>rw[e] at w;exact w.elim
 | some ds=>
  rw[e] at w
  obtain⟨p,vs,rfl,hq,rs⟩:=t9 r rb e
  obtain⟨⟨f1,f2⟩,w⟩:=WQ.gj w
  refine⟨p,vs,rfl,hq,Bp ra f1,FR rs f2,?_⟩
  have e2:(ds.any fun d=>eqF d a)=inV x vs:=FH ra f1 rs f2
  rw[<- e2]
  exact aS.now w r (.bl _)
noncomputable def isL (d:D) (h:Hh):Bool:=match d with
 | .ref n=>(aH h n).isSome
 | .frl _=>true
 | _=>false
noncomputable def lI (f:D->List D->Hh->R D) (o:ME) (a:MA):ME:=fun env h=>(o env h).bind fun x h1=>if isL x h1=true then (a env h1).bind fun xs h2=>f x xs h2 else .bad
theorem EN (r:aU K g α H h) (rd:aJ K g α H d x) (e:isL d h=true):tyV K "list" x H:=by
 unfold isL at e
 cases rd with
 | @ref n p hp=>
  obtain⟨ds,e⟩:=P_.mp e
  obtain⟨vs,hv,_⟩:=r.lst e hp
  exact .inl ⟨rfl,vs,SqL.of hv⟩
 | frl hq rs=>exact .inl ⟨rfl,_,hq.sq⟩
 | _=>cases e
theorem C7 {o e:Expr}{es:List Expr}{mo:ME}{mr:MA}{name:Str}{apos cpos:Pos}{id:String}{r:V->List V->Hp->VK->Prop}{f:D->List D->Hh->R D} (slot:Slot "list" name id) (hty:typeOf (.builtin id)=pure (.type "method_descriptor")) (hm:MtM X id r) (im:Kx X.K g ε f r) (ho:PE X o (tM X.K g ε mo)) (ha:PA X (e::es) (tMA X.K g ε mr))
  (hbase:attributeBase o name X.env (eval o X.env)=eval o X.env:=by rfl)
  (hfew:((backTo cpos (starEach (e::es) X.env)).all (fun x=>!x.1)&&(backToKw cpos (keywordEach [] X.env)).all (fun x=>x.1.isSome)
   && decide ((e::es).length+([]:List T6).length+(if ([]:List T6).isEmpty then 0 else 1)<30))=true:=by rfl)
  (hline:(apos.endLine == cpos.line)=true:=by rfl) (hs:starEach (e::es) X.env=(false,eval e X.env)::starEach es X.env:=by rfl) (hplain:(backTo cpos (starEach es X.env)).any (·.1)=false:=by rfl) :
  PE X (.Call (.Attribute o name apos) (e::es) [] cpos) (tM X.K g ε (lI f mo mr)):=
 PE.imp (J_ PySem.F.plainAttrs_list slot hty hm ho ha hbase hfew hline hs hplain) fun σ H Q ⟨α,env,h,s,w⟩=>tM.use s w.bind fun d1 h1 v1 H1 α1 e1 s1 r1 w1=>by
  obtain⟨hl,w1⟩:=WQ.gj w1
  refine⟨EN s1.heap r1 hl,tMA.use s1 (w1.ext e1).bind fun d2 h2 v2 H2 α2 e2 s2 r2 w2=>?_⟩
  exact im α2 H2 h2 d1 d2 v1 v2 Q s2.heap (r1.ext e2) r2 ((w2.ext e2).mono fun _ _ _ p=>aS.ext (e1.trans e2) p)
noncomputable def fM:D->List D->Hh->R D:=fun o ds h=>match o,ds with
 | .ref n,[d]=>match aH h n with
  | some xs=>if xs.length<1000000 then .ok .non (h.set n (.lst (xs++[d]))) else .bad
  | none=>.bad
 | _,_=>.bad
theorem qQ:Kx K g ε fM yb:=by
 intro α H h o a y x Q r ro ra w
 unfold fM at w
 cases ro with
 | @ref n p hp=>
  cases ra with
  | nil=>exact w.elim
  | @cons d v _ _ rd rr=>
   cases rr with
   | cons _ _=>exact w.elim
   | nil=>
    simp only at w
    cases e:aH h n with
    | none=>rw[e] at w;exact w.elim
    | some xs=>
     rw[e] at w
     obtain⟨hl,w⟩:=WQ.gj w
     obtain⟨vs,hv,rs⟩:=r.lst e hp
     refine⟨p,vs,_,rfl,rfl,hv,by rw[<- rs.length,O5];lia,?_⟩
     have x:=Ext.write (o:=.lst (vs++[v])) r hp
     exact(show aS K g α H Q _ _ from w) _ _ α x (r.write hp ⟨_,bH,(rs.append (.cons rd .nil)).ext x⟩) .non
 | _=>exact w.elim
theorem mI (ns:List Int):∀k,k<=ns.length->preSum (fun i=>ns.getD i 0) k=(ns.take k).sum
 | 0,_=>by rfl
 | k+1,h=>by
  rw[preSum,mI ns k (by lia),List.take_succ,Sr]
  grind
theorem d_ (hc:X.calm=true):cb X (.builtin "sum") (fun vs H Q=>∃(p:Addr) (ns:List Int),vs=[.ref p]/\(SqL X.K H p (ns.map V.int)\/SqT X.K H p (ns.map V.int))/\Q (.int ns.sum) H):=by
 intro pins s σ H xs us Q I r h
 obtain⟨p,ns,rfl,hq,q⟩:=h
 obtain⟨u,rfl,rx⟩:=vals1 r
 cases rx
 have hh:X.A.in1.handled=none:=I.ok.hd hc
 have fin:∀{its:List NB} {o:Obj},Vals (ns.map V.int) its->∀s',Moved [s.heap.objs.size] (fun a b=>b=a) { s with heap:=s.heap.push o } s'->∀t',EP X pins σ Q (.int (preSum (fun i=>ns.getD i 0) its.toArray.size) t') s':=fun{its o} rv s' mv t'=>by
  have hl:its.toArray.size=ns.length:=by rw[N5,<- rv.length,NJ]
  have keep:=fun b u e=>mv.heap b u (by simp;exact NS (tv e)) (k5 _ e)
  have I':Inv X pins σ H s':=by
   obtain⟨hp,gs,dr,tk,os⟩:=s'
   have e1:=mv.gens
   have e2:=mv.drawn
   have e3:=mv.os
   subst e1 e2 e3
   exact I.kept keep
  refine⟨.int ns.sum,H,I',⟨t',?_⟩,q⟩
  rw[hl,mI ns _ (NC _),List.take_length]
 have val:∀{its:List NB},Vals (ns.map V.int) its->∀i v,its.toArray[i]?=some v->∃t:Tok,v=Qm (ns.getD i 0) t:=fun{its} rv i v e=>by
  obtain⟨x,hx,rxv⟩:=rv.get' (show its[i]?=some v by simp_all)
  rw[NU] at hx
  cases en:ns[i]? with
  | none=>simp_all
  | some z=>
   rw[en] at hx
   cases hx
   obtain⟨t,e⟩:=rxv
   simp_all
 rcases hq with hq | hq
 ·obtain⟨its,rv,pl,hz⟩:=I.list hq
  have plt:p<s.heap.objs.size:=by obtain⟨o,e,_⟩:=pl.isList;exact tv e
  have hne:=NS plt
  refine call_sum_walkAnyS (R3 pl.isList ?_)
  refine⟨s.heap.objs.size,_,_,_,its.toArray.size,_,_,fun i=>ns.getD i 0,rfl,(T4.list hh s.heap.objs.size p hne its.toArray).toS,⟨⟨_,NH _ rfl,rfl,rfl⟩,?_⟩,fun b hb=>?_,val rv,fun s' t' mv=>fin rv s' mv t'⟩
  ·exact pl.isList.at fun o e=>k5 _ e
  ·simp at hb
   rcases hb with rfl | rfl
   ·simp
   ·exact Sq plt (tv (NH _ rfl))
 ·obtain⟨its,rv,pl,hz⟩:=I.tuple hq
  have pt:s.heap.IsTuple p its.toArray:=pl
  have hne:=NS pl.lt
  refine call_sum_walkAnyS (Qw pt ?_)
  refine⟨s.heap.objs.size,_,_,_,its.toArray.size,_,_,fun i=>ns.getD i 0,rfl,(T4.tuple hh s.heap.objs.size p hne its.toArray).toS,⟨⟨_,NH _ rfl,rfl,rfl⟩,?_⟩,fun b hb=>?_,val rv,fun s' t' mv=>fin rv s' mv t'⟩
  ·exact pt.at fun o e=>k5 _ e
  ·simp at hb
   rcases hb with rfl | rfl
   ·simp
   ·exact Sq pl.lt (tv (NH _ rfl))
noncomputable def fI:List D->Hh->R D:=fun ds h=>match ds with
 | [d]=>match jw d h with
  | some xs=>match intsOf xs with
   | some ns=>.ok (.int ns.sum) h
   | none=>.bad
  | none=>.bad
 | _=>.bad
theorem iM:mj K g ε fI (fun vs H Q=>∃(p:Addr) (ns:List Int),vs=[.ref p]/\(SqL K H p (ns.map V.int)\/SqT K H p (ns.map V.int))/\Q (.int ns.sum) H):=by
 intro α H h a x Q r ra w
 obtain⟨d,v,rfl,rfl,rd⟩:=ow (fun _ _ _ _=>rfl) (fun _=>rfl) ra w
 unfold fI at w
 simp only at w
 cases e:jw d h with
 | none=>rw[e] at w;exact w.elim
 | some ds=>
  rw[e] at w
  simp only at w
  cases e2:intsOf ds with
  | none=>rw[e2] at w;exact w.elim
  | some ns=>
   rw[e2] at w
   obtain⟨p,vs,rfl,hq,rs⟩:=t9 r rd e
   have e3:=gH e2
   subst e3
   have e4:=rs.C5
   subst e4
   exact⟨p,ns,rfl,hq,aS.now w r (.int _)⟩
noncomputable def qY:D->D->Hh->R D
 | .int i,.int j,h=>.ok (.int (i+j)) h
 | _,_,_=>.bad
theorem Bv:eV K g ε qY (ipI fun i j=>i+j):=by
 intro α H h a b x y Q r ra rb w
 cases ra with
 | int i=>
  cases rb with
  | int j=>exact⟨i,j,rfl,rfl,aS.now w r (.int _)⟩
  | _=>exact w.elim
 | _=>exact w.elim
theorem Hb:eV K g ε a9 (ipI fun i j=>i - j):=by
 intro α H h a b x y Q r ra rb w
 cases ra with
 | int i=>
  cases rb with
  | int j=>exact⟨i,j,rfl,rfl,aS.now w r (.int _)⟩
  | _=>exact w.elim
 | _=>exact w.elim
end
section
variable {P:NW}{w:Oo}{K:gV}{mg:Str->Option NB}{base:Heap}{g:GG}
noncomputable def aA (K:gV) (mg:Str->Option NB) (x:Str) (st:Stmt):Prop:=∃f fd,mg x=some (.ref f)/\Fun K x x st f fd
noncomputable def bc (K:gV) (x:Str) (st:Stmt):Prop:=∃f fd,Od K mainGlobals x=some (some (.ref f))/\Fun K x x st f fd
theorem Ie {st:Stmt}{kV doc pm cdv ct:NB} (a:Od K mainGlobals x=some (some (.ref f)))
  (l:K.lookup f=some ⟨oc,od,.func (Oy x x (eh st) (bW st) (aj st) .none kV doc pm an cdv ct),osl⟩) (c:Qr K cdv x=true) (k:OF K (.ref f)=true):bc K x st:=⟨f,_,a,xP l c k⟩
theorem aA.of {h:Heap}{x:Str}{st:Stmt} (X:K.In h) (G:h.Ns mainGlobals mg) (d:bc K x st):aA K mg x st:=
 let ⟨f,fd,a,F⟩:=d;⟨f,fd,Ql X G a,F⟩
noncomputable def Has (P:NW) (w:Oo) (K:gV) (mg:Str->Option NB) (base:Heap) (g:GG) (x:Str) (k:Nat) (ps:List Str) (m:MF):Prop:=
 ∃f fd,eK P w K mg base CX0 k f fd ps (spM K g ps.length m)/\OF K (.ref f)=true/\Binds K fd ps []/\mg x=some (.ref f)/\∃oc od osl,K.lookup f=some ⟨oc,od,.func fd,osl⟩
noncomputable def gOf (mg:Str->Option NB):GG:=fun x=>match mg x with
 | some (.ref f)=>some f
 | _=>none
theorem cW {st:Stmt} (F:Fun K x x st f fd):∃oc od osl,K.lookup f=some ⟨oc,od,.func fd,osl⟩:=by
 obtain⟨oc,od,kV,doc,pm,an,cdv,ct,osl,rfl,lk,hcd⟩:=F.ex
 simp_all
theorem GQ {st:Stmt} (F:Fun K x x st f fd) (hm:mg x=some (.ref f)) (h:Has P w K mg base g x k ps m):eK P w K mg base CX0 k f fd ps (spM K g ps.length m):=by
 obtain⟨f2,fd2,G,_,_,hm2,oc,od,osl,l2⟩:=h
 obtain⟨oc',od',osl',l1⟩:=cW F
 simp_all
end
section
variable {X:Cx}{g:GG}{ε:EE}
noncomputable def BU (i j:Nat) (m:ME):MS:=fun env h=>(m env h).bind fun d h1=>(gT2 i j d env h1).bind fun e h2=>.ok (.nx e) h2
theorem Jm {i j:Nat}{x y:Str}{e:Expr}{me:ME}{px py pt pos:Pos}{kt} (hc:X.calm=true) (hN:X.N.Nodup) (hi:X.N[i]?=some x) (hj:X.N[j]?=some y) (he:PE X e (tM X.K g ε me))
  (hx:Loc X.env.scope x:=by first | exact SW rfl | exact Tt rfl) (hy:Loc X.env.scope y:=by first | exact SW rfl | exact Tt rfl)
  (fx:X.fn x=true\/X.env.scope.names.lookup x=some .local:=by first | exact .inl rfl | exact .inr rfl) (fy:X.fn y=true\/X.env.scope.names.lookup y=some .local:=by first | exact .inl rfl | exact .inr rfl)
  (hs:swapsWithSole [.Tuple [.Name x px,.Name y py] kt pt] e pos.line X.env=pure false:=by rfl) (hw:swappedStores [.Tuple [.Name x px,.Name y py] kt pt] e X.env=pure none:=by rfl) :
  PS X (.Assign [.Tuple [.Name x px,.Name y py] kt pt] e pos) (tMS X.K g ε (BU i j me)):=
 PS.imp (CP he (xJ hc (g8 (iN hN hi hx fx) (g8 (iN hN hj hy fy) rX))) hs hw rfl) fun E σ H ⟨α,env,h,s,w⟩=>tM.use s w.bind fun d1 h1 v1 H1 α1 e1 s1 r1 w1=>by
  refine xx α1 H1 h1 env σ d1 v1 _ s1 r1 ((w1.ext e1).bind.mono fun e' h2 _ w2 σ2 H2 α2 e2 s2=>?_)
  exact(show cZ X.K g α H E (.nx e') h2 from w2) H2 α2 (e1.trans e2) s2.heap σ2 s2.vs
end
section
variable {X:Cx}{K:gV}{g:GG}{ε:EE}
noncomputable def C2 (neg:Bool):D->D->Hh->R D:=fun a b h=>match a,b with
 | .bl x,.bl true=>.ok (.bl (if neg then !x else x)) h
 | _,_=>.bad
noncomputable def F7 (neg:Bool):R2:=fun x y H Q=>∃b,x=.bl b/\y=.bl true/\Q (.bl (if neg then !b else b)) H
theorem D_:OpR X (compareOp .IsNot) (F7 true):=by
 intro pins s σ H x y v u Q I rx ry ⟨b,e1,e2,q⟩
 subst e1 e2
 cases rx;cases ry
 exact isnot_bool ⟨.bl (b != true),H,I,rfl,by simp_all⟩
theorem F9:eV K g ε (C2 neg) (F7 neg):=by
 intro α H h a b x y Q r ra rb w
 cases ra with
 | bl b1=>
  cases rb with
  | bl b2=>
   cases b2 with
   | true=>exact⟨b1,rfl,rfl,aS.now w r (.bl _)⟩
   | false=>exact w.elim
  | _=>exact w.elim
 | _=>exact w.elim
theorem Fc:eV K g ε (C2 true) (F7 true):=F9
noncomputable def FF (lo st:Int) (n:Nat):List D:=(As lo st n).map D.int
noncomputable def DQ:List D->Option (List D)
 | [.int a,.int b,.int c]=>if OJ.Range.small a b c=true/\0<=Pw a b c/\(Pw a b c).natAbs<=1000000/\c≠0/\c.natAbs<1073741824 then some (FF a c (Pw a b c).toNat) else none
 | _=>none
noncomputable def iB:List D->Hh->R D:=fun ds h=>match DQ ds with
 | some xs=>.ok (.tup xs) h
 | none=>.bad
theorem BO (r:ax K g α H ds vs) (e:DQ ds=some xs) :
  ∃a b c n,vs=[.int a,.int b,.int c]/\c≠0/\c.natAbs<1073741824/\yD a b c n/\xs=FF a c n:=by
 unfold DQ at e
 split at e
 ·rename_i a b c
  split at e
  ·rename_i hc
   cases e
   cases r with
   | cons r1 t=>
    cases t with
    | cons r2 t=>
     cases t with
     | cons r3 t=>
      cases t;cases r1;cases r2;cases r3
      exact⟨a,b,c,_,rfl,hc.2.2.2.1,hc.2.2.2.2,⟨hc.1,by lia,by lia⟩,rfl⟩
  grind
 grind
section
variable {e:Expr}{es:List Expr}{mr:MA}{p1 p2 q1 q2:Pos}
theorem nW (hc:X.calm=true) (hg:Gl X "tuple") (hm:X.mg "tuple" = none) (hg2:Gl X "range") (hm2:X.mg "range" = none) (ha:PA X (e::es) (tMA X.K g ε mr))
  (he:starEach (e::es) X.env=(false,eval e X.env)::starEach es X.env:=by rfl) (hpl:(backTo q2 (starEach es X.env)).any (·.1)=false:=by rfl)
  (he1:starEach [.Call (.Name "range" p2) (e::es) [] q2] X.env=[(false,eval (.Call (.Name "range" p2) (e::es) [] q2) X.env)]:=by rfl) (hpl1:(backTo q1 (starEach [] X.env)).any (·.1)=false:=by rfl) :
  PE X (.Call (.Name "tuple" p1) [.Call (.Name "range" p2) (e::es) [] q2] [] q1) (tM X.K g ε (ah iB mr)):=
 PE.imp (jF (oS hc) hg hm Px (jG (jF zJ hg2 hm2 PyProof.Rows.boot_range ha (by decide) (by decide) he hpl) nK he1) (by decide) (by decide) he1 hpl1) fun σ H Q ⟨α,env,h,s,w⟩=>tMA.use s w.bind fun d1 h1 v1 H1 α1 e1 s1 r1 w1=>by
  unfold iB at w1
  cases er:DQ d1 with
  | none=>rw[er] at w1;exact w1.elim
  | some xs=>
   rw[er] at w1
   obtain⟨a,b,c,n,rfl,c0,c1,ok,rfl⟩:=BO r1 er
   refine⟨a,b,c,rfl,c0,c1,fun p hp=>⟨p,a,b,c,n,rfl,bH,ok,fun l hl=>?_⟩⟩
   have x:=Ext.fresh (K:=X.K) (α:=α1) (o:=C9 p a b c) hp
   exact aS.tup (aS.ext (e1.trans x) w1) (s1.heap.grow hp) (ax.ints _) hl
end
noncomputable def C4:D->D->Hh->R D:=fun a b h=>match a with
 | .ref n=>dIx (.ref n) b h
 | _=>.bad
noncomputable def tF (o i v:ME):MS:=fun env h=>(o env h).bind fun x h1=>(i env h1).bind fun y h2=>(C4 x y h2).bind fun z h3=>(v env h3).bind fun u h4=>(qY z u h4).bind fun t h5=>(iQ x y t h5).bind fun _ h6=>.ok (.nx env) h6
theorem Ft:JH X (fun x y H Q=>HH X.K x y H Q):=by
 intro pins s σ H o i ov iv Q I ro ri h
 obtain⟨p,xs,k,z,rfl,rfl,hq,he,q⟩:=h
 cases ro
 obtain⟨t,rfl⟩:=ri
 obtain⟨its,r,pl,hz⟩:=I.list hq
 obtain⟨j,h1,h2,h3,h4,h5⟩:=nz he
 obtain⟨w,ew,rw'⟩:=r.get h2
 have hl:=r.length
 have hn:=ju
 have fin:EP X pins σ Q w s:=⟨z,H,I,rw',q⟩
 by_cases h0:0<=k
 ·have hj:k.toNat=j:=by
   rw[SO h0 h5] at h1
   simp_all
  exact wpAny_getItem_list pl.isList h0 (by lia) (by simp_all) fin
 ·have hj:(k+(its.toArray.size:Int)).toNat=j:=by
   rw[Sl (by lia) h4] at h1
   simp_all
  exact wpAny_getItem_list_neg pl.isList (by lia) (by simp_all) (by lia) (by simp_all) fin
theorem E7 {o i e:Expr}{mo mi me:ME}{tpos pos:Pos} (ho:PE X o (tM X.K g ε mo)) (hi:PE X i (tM X.K g ε mi)) (he:PE X e (tM X.K g ε me))
  (ha:∀ov iv new,augStore i ov iv new=(do holding [new,ov,iv] (setItem ov iv new);release [new,ov,iv] [];pure .next):=by intros;rfl):PS X (.AugAssign (.Subscript o i tpos) .Add e pos) (tMS X.K g ε (tF mo mi me)):=
 PS.imp (Dx ho hi Ft he CQ set_list ha) fun E σ H ⟨α,env,h,s,w⟩=>tM.use s w.bind fun d1 h1 v1 H1 α1 e1 s1 r1 w1=>tM.use s1 (w1.ext e1).bind fun d2 h2 v2 H2 α2 e2 s2 r2 w2=>by
  have w3:=(w2.ext e2).bind
  have r1':=r1.ext e2
  unfold C4 at w3
  cases r1' with
  | @ref n p hp=>
   simp only[dIx] at w3
   cases eq:jw (.ref n) h2 with
   | none=>simp only[eq] at w3;exact w3.elim
   | some ds=>
    simp only[eq] at w3
    cases r2 with
    | int k=>
     cases ea:atI ds k with
     | none=>simp only[ea] at w3;exact w3.elim
     | some z=>
      simp only[ea] at w3
      have w4:=w3
      have eq':=eq
      obtain⟨vs',hv',rs'⟩:=s2.heap.lst eq' hp
      obtain⟨v',ev',rv'⟩:=yX rs' ea
      refine⟨p,vs',k,v',rfl,rfl,SqL.of hv',ev',tM.use s2 w4.bind fun d3 h3 v3 H3 α3 e3 s3 r3 w5=>?_⟩
      refine Bv α3 H3 h3 z d3 v' v3 _ s3.heap (rv'.ext e3) r3 ((w5.ext e3).bind.mono fun t h4 _ w6 v4 H4 α4 e4 hr4 r4=>?_)
      refine o_ α4 H4 h4 (.ref n) (.int k) t (.ref p) (.int k) v4 _ hr4 (.ref ((e3.trans e4).get hp)) (.int k) r4 (((w6.ext e4)).bind.mono fun _ h5 _ w7 H5 α5 e5 hr5=>?_)
      exact(show cZ X.K g α H E (.nx env) h5 from w7) H5 α5 (e1.trans (e2.trans (e3.trans (e4.trans e5)))) hr5 _ (s3.vs.ext (e4.trans e5))
    | _=>exact w3.elim
  | _=>exact w3.elim
end
mutual
noncomputable def jR (k:Nat):D->Bool
 | .ref n=>decide (n<k)
 | .tup ds=>cf k ds
 | .frl ds=>cf k ds
 | .scr ds=>cf k ds
 | .clo _ ds=>cf k ds
 | _=>true
noncomputable def cf (k:Nat):List D->Bool
 | []=>true
 | d::ds=>jR k d&&cf k ds
end
noncomputable def sD (k:Nat):O->Bool
 | .lst ds=>cf k ds
 | .set _=>true
 | .dic kvs=>cf k (kvs.map (·.2))
 | .dit kvs=>cf k (kvs.map (·.2))
noncomputable def lA (f:D->Option D):List D->Option (List D)
 | []=>some []
 | d::ds=>match f d,lA f ds with
  | some e,some es=>some (e::es)
  | _,_=>none
noncomputable def hZ (k:Nat) (h:Hh):Nat->D->Option D
 | 0,_=>none
 | f+1,d=>match d with
  | .ref n=>if n<k then some (.ref n) else match aH h n with
   | some ds=>(lA (hZ k h f) ds).map .frl
   | none=>none
  | .tup ds=>(lA (hZ k h f) ds).map .tup
  | .frl ds=>(lA (hZ k h f) ds).map .frl
  | .scr _=>none
  | .clo f ds=>if cf 0 ds=true then some (.clo f ds) else none
  | d=>some d
noncomputable def eC (h:Hh):D->Hh->R D:=fun d h'=>if (h'.take h.length).all (sD h.length)=true then match hZ h.length h' 8 d with
 | some e=>.ok e (h'.take h.length)
 | none=>.bad else .bad
open Classical in
noncomputable def kH (S:Addr->Prop) (o:Addr->Obj) (H:Hp):Hp:=fun p=>if S p then (H p).map (.frz (o p)) else H p
theorem Gg (q:c6 P w H h p u) (mu:Mut (some u)):∃o,h.get? p=some o:=by
 cases u with
 | lst xs=>obtain⟨_,_,_,_,e'⟩:=q;simp_all
 | dK kvs=>obtain⟨_,_,_,_,o,_,_,e',_⟩:=q;simp_all
 | dT kvs=>obtain⟨_,_,_,_,o,_,_,e',_⟩:=q;simp_all
 | set S n=>obtain⟨o,_,_,_,e',_⟩:=q;simp_all
 | ins C dx fs=>obtain⟨_,_,_,e',_⟩:=q;simp_all
 | ext φ=>obtain⟨_,⟨_,e'⟩,_⟩:=q;simp_all
 | _=>exact absurd mu (fun z=>z)
theorem F6 (h:CE outer P w H s Q' u s')
  (hQ:∀v H',Q' v H'->∃S:Addr->Prop,(∀p,S p->∃u,H' p=some u/\Mut (some u))/\∀o:Addr->Obj,Q v (kH S o H')):CE outer P w H s Q u s':=by
 obtain⟨v,H',os,bare,un,hok,r,q⟩:=h
 obtain⟨S,hS,q⟩:=hQ v H' q
 have hS1:∀p,S p->∀u,H' p=some u->Mut (some u):=fun p z u e=>by grind
 have off:∀(o:Addr->Obj) b u,H' b=some u->¬ Mut (some u)->kH S o H' b=some u:=fun o b u e m=>by
  unfold kH
  grind
 have offn:∀(o:Addr->Obj) b,H' b=none->kH S o H' b=none:=fun o b e=>by
  unfold kH
  simp_all
 let o:Addr->Obj:=fun b=>(s'.heap.get? b).getD { cls:=.none,data:=.fields #[] }
 refine⟨v,kH S o H',os,bare,⟨un.keep,un.slot,fun b ob e n hx=>offn o b (un.free b ob e n hx),un.there,fun b xs e=>off o b _ (un.jL b xs e) fun z=>z,fun b ob xs e=>off o b _ (un.kr b ob xs e) fun z=>z,fun b ps e=>?_⟩,?_,r,q o⟩
 ·obtain⟨more,e1⟩:=un.kW b ps e
  exact⟨more,off o b _ e1 fun z=>z⟩
 ·intro b u e
  have st:∀u,c6 P w H' s'.heap b u->c6 P w (kH S o H') s'.heap b u:=fun u x=>x.lU (fun _ _ _ z=>z) (fun c z=>off o c _ z fun z=>z) fun c xs z=>off o c _ z fun z=>z
  unfold kH at e
  split at e
  ·rename_i hb
   obtain⟨u',e',m⟩:=hS b hb
   rw[e'] at e
   cases e
   have x:=hok b u' e'
   obtain⟨ob,eo⟩:=Gg x m
   refine⟨?_,st _ x⟩
   grind
  ·exact st u (hok b u e)
section
variable {K:gV}{g:GG}{α α':List Addr}{H H' H2:Hp}{k:Nat}
structure vm (K:gV) (α α':List Addr) (H' H2:Hp) (k:Nat):Prop where
 pre:∀n,n<k->α[n]?=α'[n]?
 tup:∀p xs,H' p=some (.tup xs)->H2 p=some (.tup xs)
 frz:∀p o u , H' p=some (.frz o u)->H2 p=some (.frz o u)
mutual
theorem nD (L:vm K α α' H' H2 k):∀{d:D}{v:V},jR k d=true->aJ K g α' H' d v->aJ K g α H2 d v
 | _,_,_,.non=>.non
 | _,_,_,.bl b=>.bl b
 | _,_,_,.int i=>.int i
 | _,_,_,.str x=>.str x
 | _,_,hl,.ref h=>.ref (by rw[L.pre _ (by simpa [jR] using hl)];exact h)
 | _,_,hl,.tup h r=>.tup (L.tup _ _ h) (fP L (by assumption) r)
 | _,_,hl,.frl h r=>.frl (let ⟨o,h⟩:=h;⟨o,L.frz _ _ _ h⟩) (fP L (by assumption) r)
 | _,_,hl,.scr h r=>.scr (h.elim (fun⟨o,h⟩=>.inl ⟨o,L.frz _ _ _ h⟩) .inr) (fP L (by assumption) r)
 | _,_,_,.fn h=>.fn h
 | _,_,_,.edic h=>.edic (L.frz _ _ _ h)
 | _,_,_,.exc hg h hc hd hf=>.exc hg (L.frz _ _ _ h) hc hd (hf.elim .inl fun⟨dx,od,a,b⟩=>.inr ⟨dx,od,a,L.frz _ _ _ b⟩)
 | _,_,hl,.clo h l hc hd hv cs r=>.clo (L.frz _ _ _ h) l (L.frz _ _ _ hc) hd hv (L2.Paired.qd cs fun _ _ ⟨c,o,u,l,a,b⟩=>⟨c,o,u,l,L.frz _ _ _ a,b⟩) (fP L (by assumption) r)
theorem fP (L:vm K α α' H' H2 k):∀{ds:List D}{vs:List V},cf k ds=true->ax K g α' H' ds vs->ax K g α H2 ds vs
 | _,_,_,.nil=>.nil
 | _,_,hl,.cons r t=>by
  simp only[cf,N_] at hl
  exact .cons (nD L hl.1 r) (fP L hl.2 t)
end
theorem kL {f:D->Option D} (hf:∀d e v,f d=some e->aJ K g α' H' d v->aJ K g α H2 e v):∀{ds es:List D}{vs:List V},lA f ds=some es->ax K g α' H' ds vs->ax K g α H2 es vs
 | [],es,_,e,.nil=>by cases e;exact .nil
 | d::ds,es,_,e,.cons r t=>by
  unfold lA at e
  split at e
  ·rename_i e1 es1 h1 h2
   cases e
   exact .cons (hf _ _ _ h1 r) (kL hf h2 t)
  grind
theorem nB {h' hx:Hh} (L:vm K α α' H' H2 k) (r:aU K g α' H' h') (hx':∀n ds,aH hx n=some ds->aH h' n=some ds) (fz:∀n p ds vs,k<=n->aH hx n=some ds->α'[n]?=some p->H' p=some (.lst vs)->Fr1 H2 p vs) :
  ∀(f:Nat) (d e:D) (v:V),hZ k hx f d=some e->aJ K g α' H' d v->aJ K g α H2 e v
 | 0,_,_,_,e,_=>by cases e
 | f+1,d,e,v,he,rd=>by
  unfold hZ at he
  cases rd with
  | non=>cases he;exact .non
  | bl b=>cases he;exact .bl b
  | int i=>cases he;exact .int i
  | str x=>cases he;exact .str x
  | fn h=>cases he;exact .fn h
  | edic h=>cases he;exact .edic (L.frz _ _ _ h)
  | exc hg h hc hd hf=>cases he;exact .exc hg (L.frz _ _ _ h) hc hd (hf.elim .inl fun⟨dx,od,a,b⟩=>.inr ⟨dx,od,a,L.frz _ _ _ b⟩)
  | scr _ _=>cases he
  | clo h l hc hd hv cs rs=>
   simp only at he
   split at he
   ·rename_i lo
    cases he
    exact .clo (L.frz _ _ _ h) l (L.frz _ _ _ hc) hd hv (L2.Paired.qd cs fun _ _ ⟨c,o,u,l,a,b⟩=>⟨c,o,u,l,L.frz _ _ _ a,b⟩) (fP ⟨fun n hn=>absurd hn (RE _),L.tup,L.frz⟩ lo rs)
   grind
  | tup h rs=>
   simp only at he
   cases e1:lA (hZ k hx f) _ with
   | none=>rw[e1] at he;cases he
   | some es=>rw[e1] at he;cases he;exact .tup (L.tup _ _ h) (kL (fun d e v=>nB L r hx' fz f d e v) e1 rs)
  | frl h rs=>
   simp only at he
   cases e1:lA (hZ k hx f) _ with
   | none=>rw[e1] at he;cases he
   | some es=>rw[e1] at he;cases he;exact .frl (let ⟨o,h⟩:=h;⟨o,L.frz _ _ _ h⟩) (kL (fun d e v=>nB L r hx' fz f d e v) e1 rs)
  | @ref n p hp=>
   simp only at he
   split at he
   ·rename_i hn
    cases he
    exact .ref (by rw[L.pre n hn];exact hp)
   ·rename_i hn
    cases el:aH hx n with
    | none=>simp_all
    | some ds=>
     rw[el] at he
     simp only at he
     cases e1:lA (hZ k hx f) ds with
     | none=>simp_all
     | some es=>
      rw[e1] at he;cases he
      obtain⟨vs,hv,rs⟩:=r.lst (hx' n ds el) hp
      exact .frl (fz n p ds vs (by lia) el hp hv) (kL (fun d e v=>nB L r hx' fz f d e v) e1 rs)
end
theorem wc {β:Type}{l:List β}{k n:Nat}{x:β} (e:(l.take k)[n]?=some x):n<k/\l[n]?=some x:=by
 rw[Qy] at e
 split at e
 ·exact⟨by assumption,e⟩
 ·cases e
theorem yO {α α':List Addr} (h:α <+: α'){n:Nat} (hn:n<α.length):α[n]?=α'[n]?:=by
 obtain⟨t,rfl⟩:=h
 rw[NN hn]
theorem DL {β:Type}{l:List β}{f:β->Bool} (h:l.all f=true){n:Nat}{x:β} (e:l[n]?=some x):f x=true:=NZ.mp h x (Ob e)
theorem Bs {K:gV}{g:GG}{h h':Hh} (r0:α.length=h.length) (e:Ext K α H α' H') (r:aU K g α' H' h') (hl:(h'.take h.length).all (sD h.length)=true)
  (L:vm K α2 α' H' H2 h.length) (kp:∀n p u,n<h.length->α'[n]?=some p->H' p=some u->H2 p=some u):∀n p o , n<h.length->α'[n]?=some p->(h'.take h.length)[n]?=some o->OAt K g α2 H2 p o:=by
 intro n p o hn hp ho
 have lo:=DL hl ho
 obtain⟨_,ho'⟩:=wc ho
 have q:=r.here n p o hp ho'
 cases o with
 | lst ds=>obtain⟨vs,a,b⟩:=q;exact⟨vs,kp n p _ hn hp a,fP L lo b⟩
 | set m=>exact kp n p _ hn hp q
 | dic kvs=>
  obtain⟨kws,a,b⟩:=q
  refine⟨kws,kp n p _ hn hp a,?_⟩
  replace lo:cf h.length (kvs.map (·.2))=true:=lo
  clear a ho ho'
  induction b with
  | nil=>exact .nil
  | cons x t ih=>
   simp only[NV,cf,N_] at lo
   exact .cons ⟨x.1,nD L lo.1 x.2⟩ (ih lo.2)
 | dit kvs=>
  obtain⟨kws,a,b⟩:=q
  refine⟨kws,kp n p _ hn hp a,?_⟩
  replace lo:cf h.length (kvs.map (·.2))=true:=lo
  clear a ho ho'
  induction b with
  | nil=>exact .nil
  | cons x t ih=>
   simp only[NV,cf,N_] at lo
   exact .cons ⟨x.1,nD L lo.1 x.2⟩ (ih lo.2)
section
variable {P:NW}{w:Oo}{K:gV}{mg:Str->Option NB}{base:Heap}{g:GG}{k np:Nat}{f:Addr}{fd:QW}{ps:List Str}{m:MF}
theorem uu {CX:CXT}{ε:XK->EE} (F:eK P w K mg base CX k f fd ps (spG K g ε np m)):eK P w K mg base CX k f fd ps (spG K g ε np fun ds h=>(m ds h).bind (eC h)):=by
 refine⟨fun vs H Q E h=>?_,fun A outer s H args us vs Q E hr e0 hb hv hsp=>?_⟩
 ·obtain⟨hl,α,ds,h,rs,hh,w⟩:=h
  exact F.len vs H (fun _ _=>True) E ⟨hl,α,ds,h,rs,hh,w.bind.mono fun _ _ _ _ _ _ _ _ _ _=>trivial⟩
 ·obtain⟨hl,α,ds,h,rs,hh,w⟩:=hsp
  refine Pg (F.run A outer s H args us vs (fun v H'=>∃α' d h',Ext K α H α' H'/\aU K g α' H' h'/\aJ K g α' H' d v/\WQ K g (ε E) α H (eC h d h') (aS K g α H Q)) E hr e0 hb hv ⟨hl,α,ds,h,rs,hh,w.bind.mono fun d h' _ w1 v H' α' e r rd=>⟨α',d,h',e,r,rd,w1⟩⟩) fun res s' q=>?_
  cases res with
  | error e=>exact q
  | ok fl=>
   cases fl with
   | ret u=>
    refine F6 (show CE outer P _ H s _ u s' from q) fun v H' ⟨α',d,h',e,r,rd,w⟩=>?_
    refine⟨fun p=>∃n ds,h.length<=n/\α'[n]?=some p/\aH h' n=some ds,fun p ⟨n,ds,_,hp,hn⟩=>?_,fun o=>?_⟩
    ·obtain⟨vs,hv,_⟩:=r.lst hn hp
     exact⟨_,hv,trivial⟩
    ·unfold eC at w
     obtain⟨hl,w⟩:=WQ.gj w
     cases ez:hZ h.length h' 8 d with
     | none=>rw[ez] at w;exact w.elim
     | some e'=>
      rw[ez] at w
      generalize hS:(fun p=>∃n ds,h.length<=n/\α'[n]?=some p/\aH h' n=some ds)=S
      have inS:∀p,S p↔∃n ds,h.length<=n/\α'[n]?=some p/\aH h' n=some ds:=fun p=>by rw[<- hS]
      have k0:=hh.len
      have notS:∀p u,H' p=some u->(∀vs,u≠.lst vs)->¬ S p:=fun p u e1 e2 z=>by
       obtain⟨n,ds,_,hp,hn⟩:=(inS p).mp z
       obtain⟨vs,hv,_⟩:=r.lst hn hp
       rw[e1] at hv;cases hv;exact e2 vs rfl
      have off:∀p,¬ S p->kH S o H' p=H' p:=fun p z=>by unfold kH;rw[if_neg z]
      have offT:∀(p:Addr) (ps:Array NB),H' p=some (.tbl ps)->kH S o H' p=some (.tbl ps):=fun p ps z=>by rw[off p (notS p _ z fun vs z=>nomatch z)];exact z
      have L:vm K α α' H' (kH S o H') h.length:=⟨fun n hn=>yO e.pre (by lia),fun p xs z=>by rw[off p (notS p _ z fun vs z=>nomatch z)];exact z,fun p o u z=>by rw[off p (notS p _ z fun vs z=>nomatch z)];exact z⟩
      have kp:∀n p u,n<h.length->α'[n]?=some p->H' p=some u->kH S o H' p=some u:=fun n p u hn hp e1=>by
       rw[off p fun z=>?_];exact e1
       obtain⟨m,ds,hm,hp',_⟩:=(inS p).mp z
       have:=r.inj n m p hp hp'
       lia
      have rd2:=nB L r (fun _ _ z=>z) (fun n p ds vs hn hl hp hv=>⟨o p,by unfold kH;rw[if_pos ((inS p).mpr ⟨n,ds,hn,hp,hl⟩),hv];rfl⟩) 8 d e' v ez rd
      refine(show aS K g α H Q e' (h'.take h.length) from w) v _ α ⟨⟨QN _,fun p xs z=>L.tup p xs (e.tup p xs z),fun p o u z=>L.frz p o u (e.frz p o u z),fun p ps z=>(e.tbl p ps z).imp fun _ q=>offT p _ q⟩,fun p u z n nt=>?_,fun _ z n=>absurd z n⟩ ⟨?_,fun n m p h1 h2=>hh.inj n m p h1 h2,fun n p ob h1 h2=>?_,r.tab.mono offT L.frz⟩ rd2
      ·rw[off p fun z'=>?_];exact e.kept p u z n nt
       obtain⟨m,ds,_,hp',_⟩:=(inS p).mp z'
       have:=e.new p (Ob hp') n
       rw[z] at this;cases this
      ·rw[Oa,<- r.len]
       have:=e.pre.length_le
       lia
      ·have hn:=(wc h2).1
       rw[yO e.pre (by lia)] at h1
       exact Bs k0 e r hl L kp n p ob hn h1 h2
   | next=>exact q
   | brk=>exact q
   | cont=>exact q
end
section
variable {X:Cx}{g:GG}{ε:EE}{K:gV}
noncomputable def AI (m:MF):MF:=fun ds h=>if cf 0 ds=true then match m ds [] with
  | .ok d _=>if jR 0 d=true then .ok d h else .bad
  | _=>.bad
 else m ds h
theorem zw (e:Ext K [] H α' H'):Ext K α H α H':=
 ⟨⟨QN _,e.tup,e.frz,e.tbl⟩,fun p o h _ t=>e.kept p o h (by simp) t,fun p a b=>absurd a b⟩
theorem AU (e:Ext K [] H α' H') (r:aU K g α H h) (t:jq K H'):aU K g α H' h:=
 ⟨r.len,r.inj,fun n p o a b=>(r.here n p o a b).ex0 (zw e).toEx0 fun u hu=>e.kept p u hu (by simp) (by obtain⟨u',e1,_,_,e4⟩:=(r.here n p o a b).isS;simp_all),t⟩
theorem BG (h:spM K g np (AI m) vs H Q E):spM K g np m vs H Q E:=by
 obtain⟨hl,α,ds,h,rs,hh,w⟩:=h
 unfold AI at w
 by_cases lo:cf 0 ds=true
 ·rw[if_pos lo] at w
  cases e:m ds [] with
  | bad=>rw[e] at w;exact w.elim
  | err x h1=>rw[e] at w;exact w.elim
  | ok d h1=>
   rw[e] at w
   obtain⟨ld,w⟩:=WQ.gj w
   refine⟨hl,[],ds,[],fP ⟨fun n hn=>absurd hn (RE _),fun _ _ z=>z,fun _ _ _ z=>z⟩ lo rs,⟨rfl,fun n m p a=>by simp at a,fun n p o a=>by simp at a,hh.tab⟩,?_⟩
   rw[e]
   exact fun v H' α' ex hr' rd=>(show aS K g α H Q d h from w) v H' α (zw ex) (AU ex hh hr'.tab) (nD ⟨fun n hn=>absurd hn (RE _),fun _ _ z=>z,fun _ _ _ z=>z⟩ ld rd)
 ·rw[if_neg lo] at w
  exact⟨hl,α,ds,h,rs,hh,w⟩
theorem HK (F:eK P w K mg base CX0 k f fd ps (spM K g np m)):eK P w K mg base CX0 k f fd ps (spM K g np (AI m)):=
 ⟨fun vs H Q E h=>F.len vs H Q E (BG h),fun A outer s H args us vs Q E hr e0 hb hv hsp=>F.run A outer s H args us vs Q E hr e0 hb hv (BG hsp)⟩
end
theorem jy (ok:HOk P w H h) (e:H p=some (AtO p o)):h.get? p=some o:=(show c6 P w H h p (AtO p o) from ok p _ e).1
theorem gU {rest:List Expr}:starEach (.Name a b::rest) env=(false,eval (.Name a b) env)::starEach rest env:=by rfl
theorem rP:backTo pos ((false,t)::r)=(false,t)::backTo pos r:=rfl
theorem mE {env:Env}{pos:Pos}{x:Str}{p2:Pos}:∀qs:List (Str × Pos),(backTo pos (starEach (qs.map (fun y=>TZ y.1 y.2)++[.Name x p2]) env)).any (·.1)=false
 | []=>by rfl
 | q::qs=>by
  rw[NV,Sg,gU,rP,QE,mE qs];rfl
section
variable {P:NW}{w:Oo}{K:gV}{mg:Str->Option NB}{base:Heap}{H:Hp}{clos:List (Str × Addr)}{scope:Ru}{env:Env}{A:Om}{E:NB->NF->Prop}{s:NF}{m:Str->Option NB}
theorem rD {x:Str}{p2 pos:Pos}{u:NB} (hs:env.scope.kind=.function) (hcl:env.cells=clos) (hok:HOk P w H s.heap) (hx:env.kindOf x=some .local) (hxd:(x == ("__debug__" : Str))=false) (hn:s.heap.Ns env.locals m) (hm:m x=some u) :
  ∀(qs:List (Str × Pos)) (vs:List V) (Q:List NB->NF->Prop),lg H clos (qs.map (·.1)) vs->(∀y∈qs.map (·.1),env.kindOf y=some .free/\(y == ("__debug__" : Str))=false/\(y == ("__classdict__" : Str))=false) →
   (∀us,Vals vs us->Q (us++[u]) s)->wpAny (model P w) A (spliced (backTo pos (starEach (qs.map (fun y=>TZ y.1 y.2)++[.Name x p2]) env))) Q E s
 | [],_,Q,.nil,_,h=>by
  exact Qu (SD (Rw hs hx hn hm (RX (h [] .nil))) hxd)
 | q::qs,_,Q,.cons ⟨c,o,z,hl,hc,hd,r⟩ t,hf,h=>by
  obtain⟨f1,f2,f3⟩:=hf q.1 (by simp)
  refine Qu (SD (wpAny_loadName_free hs f1 (by simp_all) ⟨o,jy hok hc,hd⟩ ?_ f3) f2)
  exact rD hs hcl hok hx hxd hn hm qs _ _ t (fun y hy=>hf y (by simp_all)) fun us r2=>h (z::us) (.cons r r2)
end
theorem Ep {K:gV}
  (F:eK P w K mg base CX0 k f fd ps sp) (hkp:OF K (.ref f)=true) (hb:Binds K fd ps []) (hm:mg fn=some (.ref f)) (T:oy fn x qual ys params body scope)
          (hr:fD (k+1) A) (e0:vd P w K mg base A outer s H)
  (hp:H p=some (AtO p (OC "<lambda>" qual params body scope clos pm c' ctv))) (hc:H c'=some (AtO c' oc)) (hd:oc.data=.fields vc) (hv:vc[1]?=some (.str qual t)) (cs:lg H clos ys cv) (rv:RelV v u)
  (h:sp (cv++[v]) H Q E1):codeAny (model P w) A (.call (.ref p) ⟨[u],[]⟩) (CR CX0 outer P w H s Q E) s:=by
 refine PySem.W.kla_callFunE hr.depth (jy e0.hok hp) rfl T.co T.gen rfl ⟨c',oc,vc,t,rfl,jy e0.hok hc,hd,hv⟩ ?_
 rw[T.bind]
 refine td (Rx T.Gp (by intro y hy;simp at hy;subst hy;exact T.loc) (fun h₁ hns hsb=>?_) T.kind)
 have keep1:=fun b o e=>hsb.extBut b o (NS (tv e)) (k5 _ e)
 refine⟨(e0.mod.nolimit.keeps fun b o e=>(e0.bs b o e).1).keeps keep1,?_⟩
 refine PySem.W.kla_codeExpr ?_
 obtain⟨p0,p2,p3,qs,rfl,rfl⟩:=T.tx
 have KX:=(e0.mod.kin.keeps fun b o e=>(e0.bs b o e).1).keeps keep1
 have hok1:=e0.hok.kept keep1
 refine Qv (PU T.kind T.glob (QV ((e0.mod.glob.keeps fun b o e=>(e0.bs b o e).1).keeps keep1) hm ?_) T.nd.1)
 have hL:frs (O8 qual scope s.heap.objs.size p (.ref c') clos::outer)=s.heap.objs.size::frs outer:=rfl
 have sz:s.heap.objs.size<=h₁.objs.size:=by
  by_cases z:s.heap.objs.size=0
  ·lia
  ·exact QP hns.lt
 have e1:vd P w K mg base (A.deeper (O8 qual scope s.heap.objs.size p (.ref c') clos)) (O8 qual scope s.heap.objs.size p (.ref c') clos::outer) { s with heap:=h₁,toks:=s.toks+1 } H:=
  ⟨Om.frames_deeper e0.frames,e0.mod,fun b o e=>⟨keep1 b o (e0.bs b o e).1,(e0.bs b o e).2⟩,N4 e0.bsz sz,
   SI.cons (by show scope.kind≠_;rw[T.kind];decide) rfl hns (Heap.get?_none_of_le e0.bsz) (SI.of_keeps (fun b o e _=>⟨o,keep1 b o e,rfl⟩) e0.mn),
   fun b hb'=>by
    rcases NQ.mp hb' with z | z
    ·rw[z];exact e0.hok.fresh (NC _)
    ·exact e0.frf b z,hok1,e0.bare⟩
 have fin:∀us:List NB,Vals cv us->wpAny (model P w) (A.deeper (O8 qual scope s.heap.objs.size p (.ref c') clos)) (call (.ref f) ([]++(us++[u]))) (fun z s'=>CR CX0 outer P w H s Q E (.ok (.ret z)) s')
   (fun e' s'=>wpAny (model P w) (A.deeper (O8 qual scope s.heap.objs.size p (.ref c') clos)) (leaving (O8 qual scope s.heap.objs.size p (.ref c') clos) e') (fun _ s''=>CR CX0 outer P w H s Q E (.error e') s'') (fun e'' s''=>CR CX0 outer P w H s Q E (.error e'') s'') s') { s with heap:=h₁,toks:=s.toks+1 }:=fun us r2=>by
  have rr:=r2.append (.cons rv .nil)
  have hl:(us++[u]).length=ps.length:=by rw[<- rr.length];exact F.len _ _ _ _ h
  have hb2:=hb { s with heap:=h₁,toks:=s.toks+1 } (us++[u]) KX (by simp_all)
  rw[P9] at hb2
  refine RY (Pg (F.run _ _ _ H ⟨us++[u],[]⟩ (us++[u]) (cv++[v]) Q E1 (hr.deeper _) e1 hb2 rr h) fun r s' hq=>?_)
  cases r with
  | error e=>exact QD hq
  | ok fl=>
   cases fl with
   | ret z=>
    obtain⟨y,H',os,bare,un,hok,r,q⟩:=(show CE _ P w H _ Q z s' from hq)
    have old:∀{b:Addr} {o:Obj},s.heap.get? b=some o->b∉frs outer->b∉frs (O8 qual scope s.heap.objs.size p (.ref c') clos::outer):=fun{b o} e n z=>by
     rcases NQ.mp z with z | z
     ·exact absurd (tv e) (by simp_all)
     ·exact n z
    exact⟨y,H',os,bare,⟨fun b o e n hb' hx=>un.keep b o (keep1 b o e) n (old e hb') hx,fun b o e n hb' hx=>un.slot b o (keep1 b o e) n (by simp_all) hx,fun b o e n hx=>un.free b o (keep1 b o e) n hx,fun b o e hx=>un.there b o (keep1 b o e) hx,un.jL,un.kr,un.kW⟩,hok,r,q⟩
   | next=>assumption
   | brk=>assumption
   | cont=>assumption
 have main:=rD (env:=O8 qual scope s.heap.objs.size p (.ref c') clos) (A:=A.deeper (O8 qual scope s.heap.objs.size p (.ref c') clos)) (s:={ s with heap:=h₁,toks:=s.toks+1 }) (x:=x) (p2:=p2) (pos:=p3) (u:=u)
  (E:=fun e' s'=>wpAny (model P w) (A.deeper (O8 qual scope s.heap.objs.size p (.ref c') clos)) (leaving (O8 qual scope s.heap.objs.size p (.ref c') clos) e') (fun _ s''=>CR CX0 outer P w H s Q E (.error e') s'') (fun e'' s''=>CR CX0 outer P w H s Q E (.error e'') s'') s')
  T.kind rfl hok1 T.loc T.nd.2 hns (by simp) qs cv (fun us s2=>K.In s2.heap/\wpAny (model P w) (A.deeper (O8 qual scope s.heap.objs.size p (.ref c') clos)) (call (.ref f) ([]++us)) (fun z s'=>CR CX0 outer P w H s Q E (.ok (.ret z)) s')
   (fun e' s'=>wpAny (model P w) (A.deeper (O8 qual scope s.heap.objs.size p (.ref c') clos)) (leaving (O8 qual scope s.heap.objs.size p (.ref c') clos) e') (fun _ s''=>CR CX0 outer P w H s Q E (.error e') s'') (fun e'' s''=>CR CX0 outer P w H s Q E (.error e'') s'') s') s2) cs T.free fun us r2=>⟨KX,fin us r2⟩
 cases qs with
 | nil=>exact QX (h₀:=h₁) KX hkp main gU rfl
 | cons q qs=>exact QX (h₀:=h₁) KX hkp main gU (mE qs)
noncomputable def iE (tab:Str->Option (Nat × MF)) (f:ME) (a:MA):ME:=fun env h=>(f env h).bind fun d h1=>match d with
 | .clo x ds=>match tab x with
  | some (np,m)=>if ds.length+1=np then (a env h1).bind fun es h2=>m (ds++es) h2 else .bad
  | none=>.bad
 | _=>.bad
theorem pN {X:Cx}{g:GG}{k:Nat}{tab:Str->Option (Nat × MF)}{fe e:Expr}{pos:Pos}{mf:ME}{mr:MA}
  (T:∀x np m,tab x=some (np,m)->∃f fd ps,X.mg x=some (.ref f)/\eK X.prog X.w X.K X.mg X.base CX0 k f fd ps (spM X.K g np m)/\OF X.K (.ref f)=true/\Binds X.K fd ps [])
  (hr:fD (k+1) X.A) (hf:PE X fe (tM X.K g E00 mf)) (ha:PA X [e] (tMA X.K g E00 mr)) (hlen:∀env h ds h',mr env h=.ok ds h'->ds.length=1)
  (hc:eval (.Call fe [e] [] pos) X.env=(do callWith pos (← eval fe X.env) [] (backTo pos (starEach [e] X.env)) (backToKw pos (keywordEach [] X.env))):=by rfl)
  (he:starEach [e] X.env=(false,eval e X.env)::starEach [] X.env:=by rfl) :
  PE X (.Call fe [e] [] pos) (tM X.K g E00 (iE tab mf mr)):=by
 intro pins s σ H Q I ⟨α,env,h,s0,w⟩
 refine Call_ (thn (hf pins s σ H (fun v H1=>∃α1 h1 p o clos ys cv c' oc qual t vc x ds np m,v=.ref p/\H1 p=some (AtO p o)/\FN x clos ys o c' qual/\H1 c'=some (AtO c' oc)/\oc.data=.fields vc/\vc[1]?=some (.str qual t)/\lg H1 clos ys cv/\ax X.K g α1 H1 ds cv ∧
   tab x=some (np,m)/\ds.length+1=np/\dM X.K g α1 H1 env σ h1/\WQ X.K g E00 α1 H1 ((mr env h1).bind fun es h2=>m (ds++es) h2) (aS X.K g α1 H1 Q)) I ?_) fun v s1 ⟨x,H1,I1,r1,q1⟩=>?_) hc
 ·refine tM.use s0 w.bind fun d1 h1 v1 H1 α1 e1 s1 r1 w1=>?_
  cases r1 with
  | @clo x ds p o clos ys vs c' oc qual t vc hp hl hc' hd hv cs rs=>
   simp only at w1
   cases et:tab x with
   | none=>rw[et] at w1;exact w1.elim
   | some q=>
    obtain⟨np,m⟩:=q
    rw[et] at w1
    obtain⟨hn,w1⟩:=WQ.gj w1
    exact⟨α1,h1,p,o,clos,ys,vs,c',oc,qual,t,vc,x,ds,np,m,rfl,hp,hl,hc',hd,hv,cs,rs,et,hn,s1,WQ.post e1 w1⟩
  | _=>exact w1.elim
 ·obtain⟨α1,h1,p,o,clos,ys,cv,c',oc,qual,t,vc,x,ds,np,m,rfl,hp,⟨params,body,scope,pm,ctv,xa,rfl,tx⟩,hc',hd,hv,cs,rs,et,hn,s2,w2⟩:=q1
  cases r1
  obtain⟨f,fd,ps,hm,F,hk,hb⟩:=T x np m et
  have fn:∀{h:Heap},h.get? p=some (OC "<lambda>" qual params body scope clos pm c' ctv)->PySem.W.FnAt p h:=fun e=>⟨_,_,_,_,e⟩
  refine PySem.W.callWith_F (fn (jy I1.hok hp)) (thn (ha pos pins s1 σ H1 (fun vs H2=>∃v,vs=[v]/\H2 p=some (AtO p (OC "<lambda>" qual params body scope clos pm c' ctv))/\H2 c'=some (AtO c' oc)/\lg H2 clos ys cv/\spM X.K g np m (cv++[v]) H2 Q E0) I1 ?_) fun us s3 ⟨vs,H2,I2,r,v,ev,hp2,hc2,cs2,q⟩=>⟨fn (jy I2.hok hp2),?_⟩) he rfl
  ·refine⟨α1,env,h1,s2,w2.bind.mono fun es h3 eq w3 v3 H3 α3 e3 hr3 r3=>?_⟩
   have l1:=hlen env h1 es h3 eq
   obtain⟨d,rfl⟩:∃d,es=[d]:=List.length_eq_one_iff.mp l1
   cases r3 with
   | @cons _ v _ _ rd rn=>
    cases rn
    refine⟨v,rfl,e3.frz _ _ _ hp,e3.frz _ _ _ hc',L2.Paired.qd cs fun _ _ ⟨c,o,u,l,a,b⟩=>⟨c,o,u,l,e3.frz _ _ _ a,b⟩,?_,α3,ds++[d],h3,(rs.ext e3).append (.cons rd .nil),hr3,w3.post e3⟩
    rw[N2,<- rs.length];exact hn
  ·subst ev
   cases r with
   | @cons _ u _ _ ru rn=>
    cases rn
    refine RY (Pg (Ep F hk hb hm tx (E:=E0) hr I2.Kv hp2 hc2 hd hv cs2 ru q) fun r s' hq=>?_)
    cases r with
    | error e=>exact QD hq
    | ok fl=>
     cases fl with
     | ret u=>exact I2.after hq
     | next=>assumption
     | brk=>assumption
     | cont=>assumption
open Classical in
noncomputable def mkH (S:Addr->Prop) (h2:Heap) (PT:Addr) (T:Array NB) (H1:Hp):Hp:=fun b=>if S b then (h2.get? b).map (AtO b) else if b=PT then some (.tbl T) else H1 b
structure MkS (P) (w) (S:Addr->Prop) (h1 h2:Heap) (PT) (ps more) (H1):Prop where
 hok:HOk P w H1 h1
 hPT:H1 PT=some (.tbl ps)
 k:∀b o,b≠PT->h1.get? b=some o->h2.get? b=some o
 hT:h2.get? PT=some (Po (ps++more))
 hS:∀b,S b->b≠PT/\(∃o,h2.get? b=some o)/\(H1 b=none\/∃o,H1 b=some (AtO b o))
section
variable {P:NW}{w:Oo}{S:Addr->Prop}{h0 h1 h2:Heap}{PT:Addr}{ps more:Array NB}{H H1:Hp}{K:gV}{g:GG}{α:List Addr}{h:Hh}{fs:List Addr}
theorem MkS.at_ (M:MkS P w S h1 h2 PT ps more H1) (hb:S b) (e:h2.get? b=some o):mkH S h2 PT (ps++more) H1 b=some (AtO b o):=by
 unfold mkH;simp_all
theorem MkS.pt (M:MkS P w S h1 h2 PT ps more H1):mkH S h2 PT (ps++more) H1 PT=some (.tbl (ps++more)):=by
 unfold mkH;rw[if_neg fun z=>(M.hS PT z).1 rfl,if_pos rfl]
theorem MkS.off (M:MkS P w S h1 h2 PT ps more H1) (e:H1 b=some o) (n:b≠PT):mkH S h2 PT (ps++more) H1 b=some o:=by
 by_cases hb:S b
 ·obtain⟨_,⟨o2,e2⟩,z | ⟨o1,z⟩⟩:=M.hS b hb
  ·simp_all
  ·rw[e] at z;cases z
   have e1:=M.k b o1 n (jy M.hok e)
   exact M.at_ hb e1
 ·unfold mkH;simp_all
theorem MkS.non (M:MkS P w S h1 h2 PT ps more H1) (e:H1 b=none) (n:¬ S b):mkH S h2 PT (ps++more) H1 b=none:=by
 unfold mkH;rw[if_neg n,if_neg (bh M.hPT e).symm];exact e
theorem MkS.IB (M:MkS P w S h1 h2 PT ps more H1):HOk P w (mkH S h2 PT (ps++more) H1) h2:=by
 intro b u e
 by_cases hb:S b
 ·obtain⟨_,⟨o2,e2⟩,_⟩:=M.hS b hb
  rw[M.at_ hb e2] at e
  cases e
  exact⟨e2,e2,⟨o2,e2⟩,fun a c x y=>y _ x⟩
 ·by_cases hp:b=PT
  ·subst hp
   rw[M.pt] at e
   cases e
   exact M.hT
  ·have e1:H1 b=some u:=by unfold mkH at e;simp_all
   refine(M.hok b u e1).lU (fun c x hc hx=>M.k c x ?_ hx) (fun c z=>M.off z fun q=>?_) fun c xs z=>M.off z fun q=>?_
   ·rcases hc with rfl | hc
    ·exact hp
    ·rintro rfl;rw[M.hPT] at hc;cases hc
   ·subst q;rw[M.hPT] at z;cases z
   ·subst q;rw[M.hPT] at z;cases z
theorem MkS.un (M:MkS P w S h1 h2 PT ps more H1) (u:Un fs [] H H1 h0 h1) (hn:∀b,S b->h0.objs.size<=b\/H1 b≠none):Un fs [] H (mkH S h2 PT (ps++more) H1) h0 h2:=by
 have nt:=fun b o e n=>(bh M.hPT (u.free b o e n (by simp))).symm
 refine⟨fun b o e n hf hx=>M.k b o (nt b o e n) (u.keep b o e n hf hx),fun b o e n hf hx=>?_,fun b o e n hx=>?_,fun b o e hx=>?_,fun b xs e=>M.off (u.jL b xs e) fun z=>?_,fun b o x e=>M.off (u.kr b o x e) fun z=>?_,fun b qs e=>?_⟩
 ·obtain⟨sl,e1⟩:=u.slot b o e n hf hx
  exact⟨sl,M.k b _ (nt b o e n) e1⟩
 ·have z:=u.free b o e n hx
  refine M.non z fun hb=>?_
  rcases hn b hb with q | q
  ·exact absurd (tv e) (Qb.mpr q)
  grind
 ·obtain⟨o1,e1⟩:=u.there b o e hx
  by_cases z:b=PT
  ·exact⟨_,z ▸ M.hT⟩
  ·exact⟨o1,M.k b o1 z e1⟩
 ·have:=u.jL b xs e;rw[z,M.hPT] at this;grind
 ·have:=u.kr b o x e;rw[z,M.hPT] at this;grind
 ·obtain⟨m1,e1⟩:=u.kW b qs e
  by_cases z:b=PT
  ·subst z
   rw[M.hPT] at e1
   cases e1
   exact⟨m1++more,by rw[M.pt,RJ]⟩
  ·exact⟨m1,M.off e1 z⟩
theorem MkS.ext (M:MkS P w S h1 h2 PT ps more H1):Ext K α H1 α (mkH S h2 PT (ps++more) H1):=
 ⟨⟨QN _,fun p xs e=>M.off e (fun z=>by rw[z,M.hPT] at e;cases e),fun p o x e=>M.off e (fun z=>by rw[z,M.hPT] at e;cases e),fun p qs e=>by
  by_cases z:p=PT
  ·subst z
   rw[M.hPT] at e;cases e
   exact⟨more,M.pt⟩
  ·exact⟨#[],by rw[M.off e z];simp⟩⟩,fun p o e _ t=>M.off e (fun z=>by rw[z,M.hPT] at e;grind),fun _ z n=>absurd z n⟩
theorem MkS.J1 (M:MkS P w S h1 h2 PT ps more H1) (r:aU K g α H1 h){ns:Pos × Str} (uq:∀f q,jN K f=some q->q.1=PT->q.2=ns) (t:vF (mkH S h2 PT (ps++more) H1) (PT,ns)):aU K g α (mkH S h2 PT (ps++more) H1) h:=by
 refine⟨r.len,r.inj,fun n p o a b=>(r.here n p o a b).ex0 M.ext.toEx0 fun x e=>M.off e fun z=>?_,fun f q e=>?_⟩
 ·obtain⟨u,e1,_,_,nt⟩:=r.mem (Ob a)
  rw[z,M.hPT] at e1;cases e1;exact nt _ rfl
 ·by_cases z:q.1=PT
  ·have:=uq f q e z
   cases z;cases this
   exact t
  ·rcases r.tab f q e with x | ⟨c',oc,vc,tk,x,hc,hd⟩
   ·exact .inl (M.off x z)
   ·exact .inr ⟨c',oc,vc,tk,M.off x z,M.off hc (fun y=>by rw[y,M.hPT] at hc;cases hc),hd⟩
end
theorem qV {h h':Heap}{mg:Str->Option NB}{PT:Addr} (k:∀b o,h.get? b=some o->h'.get? b=some o) (x:h.BuiltinsAt mg PT):h'.BuiltinsAt mg PT:=
 let ⟨bm,o,a,b,c,d,e,r⟩:=x;⟨bm,o,a,b,c,d,k _ _ e,r⟩
noncomputable def Made (X:Cx) (g:GG) (α:List Addr) (h:Hh) (H1:Hp) (s1:NF) (d:D) (u:NB) (s2:NF):Prop:=∃p H2,u=.ref p/\s2.os=s1.os/\s2.gens=s1.gens/\HOk X.prog X.w H2 s2.heap/\Un X.fs [] X.aG H2 X.aE.heap s2.heap/\Ext X.K α H1 α H2/\aU X.K g α H2 h/\aJ X.K g α H2 d (.ref p) ∧
 (∀b o,H1 b=none->s1.heap.get? b=some o->s2.heap.get? b=some o)/\(∀b o,s1.heap.get? b=some o->H1 b=none->(∀x c,X.env.cells.lookup x=some c->c≠b)->H2 b=none)
theorem Bu {X:Cx}{g:GG}{pins:List (Addr × Obj)}{σ:St}{H1:Hp}{s1:NF}{α:List Addr}{h:Hh}{params:R0}{body:Expr}{scope:Ru}{pos:Pos}{clos:List (Str × Addr)}{c PT f:Addr}{lf x ql:Str}{ys:List Str}{vs:List V}{ds:List D}{E:NB->NF->Prop}
  (J:Inv X pins σ H1 s1) (hex:X.ex=[]) (hdef:defaultsOf params X.env=([],[])) (hq:X.env.qual++"<lambda>" = ql) (hcode:X.env.code=.ref c) (C:O1 X.K c PT=true) (hB:X.base.BuiltinsAt X.mg PT) (hgP:mainGlobals≠PT)
  (hmk:jN X.K f=some (PT,pos,ql)) (uq:∀f q,jN X.K f=some q->q.1=PT->q.2=(pos,ql)) (hcl:closureFor scope X.env=pure clos) (hcs:∀y c,clos.lookup y=some c->X.env.cells.lookup y=some c) (hfn:∀y,X.fn y=true)
  (T:oy lf x ql ys params body scope) (hr:aU X.K g α H1 h) (hvs:Paired (fun y v=>(∃c,clos.lookup y=some c)/\X.env.kindOf y=some .cell/\∃i:Nat,X.N[i]?=some y/\σ[i]?=some (some v)) ys vs) (rds:ax X.K g α H1 ds vs) :
  wpAny (model X.prog X.w) X.A (eval (.Lambda params body scope pos) X.env) (Made X g α h H1 s1 (.clo lf ds)) E s1:=by
 subst hq
 refine PySem.W.kla_eval hdef ?_
 have Ch:=RF J.kIn C
 have hg:=J.mod.glob.keeps J.bk
 have hb:=qV J.bk hB
 obtain⟨m,hns,hloc⟩:=J.loc
 have fin:∀(h':Heap) (tk:Tok) (c':Addr) (ctv:NB) (oc:Obj) (vc:Array NB) (t:Tok) (ps more:Array NB),H1 PT=some (.tbl ps)->(∀b o,b≠PT->s1.heap.get? b=some o->h'.get? b=some o)->s1.heap.objs.size<=h'.objs.size->h'.get? PT=some (Po (ps++more)) →
   ps++more = #[rawInt pos.line,rawInt pos.col,.ref c']->h'.get? c'=some oc->oc.data=.fields vc->vc[1]?=some (.str (X.env.qual++"<lambda>") t)->c'≠PT->((H1 c'=none/\s1.heap.objs.size<=c')\/H1 c'=some (AtO c' oc)) →
   Made X g α h H1 s1 (.clo lf ds) (.ref h'.objs.size) { s1 with heap:=h'.push (OC "<lambda>" (X.env.qual++"<lambda>") params body scope clos ((X.mg "__name__").getD .none) c' ctv),toks:=tk }:=by
  intro h' tk c' ctv oc vc t ps more hPT hk hsz hT hT2 hc hd hv hcP hc1
  have kp:∀b o,h'.get? b=some o->(h'.push (OC "<lambda>" (X.env.qual++"<lambda>") params body scope clos ((X.mg "__name__").getD .none) c' ctv)).get? b=some o:=fun b o e=>k5 _ e
  have pp:(h'.push (OC "<lambda>" (X.env.qual++"<lambda>") params body scope clos ((X.mg "__name__").getD .none) c' ctv)).get? h'.objs.size=some (OC "<lambda>" (X.env.qual++"<lambda>") params body scope clos ((X.mg "__name__").getD .none) c' ctv):=NH _ rfl
  have M:MkS X.prog X.w (fun b=>b=h'.objs.size\/b=c'\/∃y,clos.lookup y=some b) s1.heap (h'.push (OC "<lambda>" (X.env.qual++"<lambda>") params body scope clos ((X.mg "__name__").getD .none) c' ctv)) PT ps more H1:=by
   refine⟨J.hok,hPT,fun b o n e=>kp b o (hk b o n e),kp _ _ hT,fun b hb=>?_⟩
   rcases hb with rfl | rfl | ⟨y,hy⟩
   ·exact⟨fun z=>absurd (tv hT) (by rw[<- z];exact OH _),⟨_,pp⟩,.inl (J.hok.fresh hsz)⟩
   ·refine⟨hcP,⟨_,kp _ _ hc⟩,?_⟩
    rcases hc1 with⟨z,_⟩ | z
    ·exact .inl z
    ·exact .inr ⟨_,z⟩
   ·have z:=J.gm y b (hcs y b hy)
    obtain⟨v,o,e,_⟩:=J.cell y b (hcs y b hy)
    have n:=(bh hPT z).symm
    exact⟨n,⟨o,kp _ _ (hk b o n e)⟩,.inl z⟩
  have atp:=M.at_ (.inl rfl) pp
  have atc:=M.at_ (.inr (.inl rfl)) (kp _ _ hc)
  refine⟨h'.objs.size,_,rfl,rfl,rfl,M.IB,M.un (hex ▸ J.base) fun b hb=>?_,M.ext,M.J1 hr uq (.inr ⟨c',oc,vc,t,?_,atc,hd,hv⟩),?_,fun b o n e=>kp b o (hk b o (bh hPT n).symm e),fun b o e n hcc=>M.non n fun hb=>?_⟩
  ·rcases hb with rfl | rfl | ⟨y,hy⟩
   ·exact .inl (N4 J.sz hsz)
   ·rcases hc1 with⟨_,z⟩ | z
    ·exact .inl (N4 J.sz z)
    ·exact .inr (by rw[z];exact fun q=>nomatch q)
   ·exact .inl (J.ok.cab y b (hfn y) (hcs y b hy))
  ·rw[M.pt,hT2]
  ·refine .clo atp ⟨params,body,scope,_,ctv,x,rfl,T⟩ atc hd hv (L2.Paired.qd hvs fun y v ⟨⟨cc,hcc⟩,kd,i,hN,hσ⟩=>?_) (rds.ext M.ext)
   obtain⟨u,ru,lk⟩:=hloc i y v hN hσ (.inr (.inl kd))
   rcases lk with⟨z,_⟩ | ⟨_,c2,hc2,o,e,hdo⟩
   ·rw[kd] at z;cases z
   ·rw[hcs y cc hcc] at hc2
    cases hc2
    have z:=J.gm y cc (hcs y cc hcc)
    exact⟨cc,o,u,hcc,M.at_ (.inr (.inr ⟨y,hcc⟩)) (kp _ _ (hk cc o (bh hPT z).symm e)),hdo,ru⟩
  ·rcases hb with rfl | rfl | ⟨y,hy⟩
   ·exact absurd (tv e) (Qb.mpr hsz)
   ·rcases hc1 with⟨_,z⟩ | z
    ·exact absurd (tv e) (Qb.mpr z)
    ·rw[n] at z;cases z
   ·exact hcc y b (hcs y b hy) rfl
 rcases hr.tab f _ hmk with hPT | ⟨c',oc,vc,t,hPT,hc,hd,hv⟩
 ·have hP:=J.hok PT _ hPT
  refine PySem.W.kla_makeFunction hcl J.ok.glob hg hcode Ch hP trivial rfl hgP hb fun c' ctv h' tk hx hge hlt hrec htb=>?_
  obtain⟨c2,oc,vc,t,z,hc,hd,hv⟩:=hrec
  cases z
  refine fin h' tk c' ctv oc vc t _ _ hPT (fun b o n e=>hx b o n e) (by lia) htb (by simp) hc hd hv (fun z=>?_) (.inl ⟨J.hok.fresh hge,hge⟩)
  exact absurd (tv hP) (by rw[<- z];exact Qb.mpr hge)
 ·have hP:=J.hok PT _ hPT
  refine PySem.W.kla_makeFunctionHit (cv:=.ref c') hcl J.ok.glob hg hcode Ch hP trivial (by simp[codeAmong,rawInt]) hb fun ctv h' tk hk hsz=>?_
  refine fin h' tk c' ctv oc vc t _ #[] hPT (fun b o n e=>hk b o e) hsz (by rw[Array.append_empty];exact hk _ _ hP) (by simp) (hk _ _ (jy J.hok hc)) hd hv (fun z=>?_) (.inr hc)
  rw[z,hPT] at hc;cases hc
theorem uL {last:Stmt}{env:Env}:∀rows:List Stmt,execs (rows++[last]) env=(execs rows env >>= fun f=>match f with
  | .next=>exec last env
  | f=>pure f)
 | []=>by
  show(exec last env >>= fun f=>match f with | .next=>pure .next | f=>pure f)=_
  refine NK ?_ (bind_pure _)
  congr 1
  grind
 | r::rows=>by
  show(exec r env >>= fun f=>match f with | .next=>execs (rows++[last]) env | f=>pure f)=((exec r env >>= fun f=>match f with | .next=>execs rows env | f=>pure f) >>= _)
  rw[bind_assoc]
  congr 1
  funext f
  cases f with
  | next=>exact uL rows
  | ret v=>rfl
  | brk=>rfl
  | cont=>rfl
theorem x9 {CX:CXT}{P:NW}{w:Oo}{K:gV}{mg:Str->Option NB}{base:Heap}{k:Nat}{f:Addr}{name qual:Str}{params:R0}{body rows:List Stmt}{last:Stmt}{scope:Ru}{dV kV doc pm cdv ct oc:NB}{an od:Option Addr}
  {osl:Array (Option NB)} {N ps:List Str} {sp:Sp} (lk:K.lookup f=some ⟨oc,od,.func (Oy name qual params body scope dV kV doc pm an cdv ct),osl⟩) (hcd:Qr K cdv qual=true) (S:az N ps scope)
  (len:∀vs H Q E,sp vs H Q E->vs.length=ps.length) (hbd:body=rows++[last])
  (hbody:∀(A:Om) (outer:List Env) (s:NF) (H:Hp) (vs:List V) (Q:VK) (E:XK),fD k (A.deeper (envOfC qual scope s.heap.objs.size f cdv))->sp vs H Q E →
   ∃t R,PSs (gg CX P w K mg base N qual scope f cdv A outer s H E) rows t/\t { nx:=R,rt:=fun _ _=>False } (start N vs) H/\∀σ H1 s1,Inv (gg CX P w K mg base N qual scope f cdv A outer s H E) [] σ H1 s1->R σ H1 →
    wpAny (model P w) (gg CX P w K mg base N qual scope f cdv A outer s H E).A (exec last (envOfC qual scope s.heap.objs.size f cdv)) (fun fl s2=>∃u,fl=.ret u/\CE outer P w H s Q u s2) (gg CX P w K mg base N qual scope f cdv A outer s H E).xe s1) :
  eK P w K mg base CX (k+1) f (Oy name qual params body scope dV kV doc pm an cdv ct) ps sp:=by
 subst hbd
 refine⟨len,fun A outer s H args us vs Q E hr e0 hb r hsp=>?_⟩
 have hl:=len _ _ _ _ hsp
 have KX:=e0.mod.kin.keeps fun b o e=>(e0.bs b o e).1
 have lim:=e0.mod.nolimit.keeps fun b o e=>(e0.bs b o e).1
 have hkind:∀y∈ps.zip us,scope.names.lookup y.1=some .local\/(scope.names.lookup y.1=some .cell/\((cellsFrom (s.heap.objs.size+1) scope.names []).lookup y.1).isSome=true):=fun⟨n,v⟩ hy=>by
  rcases S.par n (RC hy).1 with q | q
  ·grind
  ·exact .inr ⟨q,PN _ _ _ (.inl q)⟩
 refine codeAny_call_function hr.depth (KX _ _ lk) rfl S.co S.gen rfl (PySem.W.codeRec_of KX hcd) (hb _ _ _ _ ?_)
 refine wpAny_newFunctionEnv_cells S.kind hkind fun env he s1 x=>?_
 subst he
 refine⟨lim.keeps x.toInCall.keep,codeAny_func ?_⟩
 obtain⟨t,R,ht,hq,hlast⟩:=hbody A outer s H vs Q E (hr.deeper _) hsp
 have I:Inv (gg CX P w K mg base N qual scope f cdv A outer s H E) [] (start N vs) H s1:=rg S hr.hd e0 hl r x
 rw[uL]
 refine OW (k3 (thn (ht [] s1 (start N vs) H _ I hq) fun fl s' hs=>?_)) (Q:=fun fl s2=>∃u,fl=Flow.ret u/\CE outer P w H s Q u s2) (fun fl s' hs=>?_) fun e s' hs=>hs
 ·cases fl with
  | next=>
   obtain⟨σ',H',J,q⟩:=hs
   exact hlast σ' H' s' J q
  | ret u=>obtain⟨_,_,_,_,_,q⟩:=hs;simp_all
  | brk=>obtain⟨_,_,_,q⟩:=hs;simp_all
  | cont=>obtain⟨_,_,_,q⟩:=hs;simp_all
 ·obtain⟨u,rfl,q⟩:=hs
  exact q
noncomputable def nM:List Nat->En->Option (List D)
 | [],_=>some []
 | i::r,e=>match (e[i]?:Option (Option D)),nM r e with
  | some (some d),some ds=>some (d::ds)
  | _,_=>none
noncomputable def ES (n:Nat) (m:MS) (lf:Str) (ix:List Nat):MF:=fun ds h=>(m (ds.map some++N1 (n - ds.length) none) h).bind fun fl h1=>match fl with
 | .nx e=>(match nM ix e with
  | some cs=>.ok (.clo lf cs) h1
  | none=>.bad)
 | _=>.bad
theorem oj {K:gV}{g:GG}{α:List Addr}{H:Hp}{N:List Str}{σ:St}{e:En} (v:jQ K g α H e σ):∀{ix:List Nat}{ys:List Str}{cs:List D},ix.map (fun i=>N[i]?)=ys.map some->nM ix e=some cs →
  ∃vs,Paired (fun y v=>∃i:Nat,N[i]?=some y/\σ[i]?=some (some v)) ys vs/\ax K g α H cs vs
 | [],[],_,_,h=>by cases h;exact⟨[],.nil,.nil⟩
 | [],_::_,_,e,_=>by cases e
 | _::_,[],_,e,_=>by cases e
 | i::ix,y::ys,cs,hi,h=>by
  simp only[NV,Ss] at hi
  unfold nM at h
  split at h
  ·rename_i d ds e1 e2
   cases h
   obtain⟨u,hu,ru⟩:=v.vars i d e1
   obtain⟨vs,p,r⟩:=oj v hi.2 e2
   exact⟨u::vs,.cons ⟨i,hi.1,hu⟩ p,.cons ru r⟩
  grind
noncomputable def mkU (K:gV):Bool:=(K.filterMap fun p=>jN K p.1).all fun a=>(K.filterMap fun p=>jN K p.1).all fun b=>!(Tu a.1 b.1) || decide (a.2=b.2)
theorem CI {K:gV} (h:K.lookup f=some o):∃p∈K,p.1=f:=by
 induction K with
 | nil=>cases h
 | cons q r ih=>
  grind
theorem tS {K:gV} (h:jN K f=some q):q∈K.filterMap fun p=>jN K p.1:=by
 cases e:K.lookup f with
 | none=>unfold jN at h;simp_all
 | some o=>
  obtain⟨p,hp,e1⟩:=CI e
  grind
theorem BQ {K:gV} (u:mkU K=true) (h:jN K f=some q) (h':jN K f'=some q') (e:q'.1=q.1):q'.2=q.2:=by
 have:=NZ.mp (NZ.mp u q' (tS h')) q (tS h)
 simp_all
structure Mkr (K) (mg) (base:Heap) (fd:QW) (c PT):Prop where
 code:fd.code=.ref c
 hd:O1 K c PT=true
 bat:base.BuiltinsAt mg PT
 ne:mainGlobals≠PT
 uq:mkU K=true
theorem Ek {K:gV}{c PT:Addr} (e:O1 K c PT=true):∃k d vs s,K.lookup c=some ⟨k,d,.fields vs,s⟩/\vs[11]?=some (.ref PT):=by
 unfold O1 at e
 grind
theorem yF {K:gV}{f c PT:Addr} (lk:K.lookup f=some ⟨oc,od,.func fd,osl⟩) (hc:fd.code=.ref c) (C:O1 K c PT=true) (hm:zV fd=some pos) :
  jN K f=some (PT,pos,fd.qualname++".<locals>." ++ "<lambda>"):=by
 obtain⟨k,d,vs,s,e,e11⟩:=Ek C
 unfold jN
 simp_all
section
variable {P:NW}{w:Oo}{K:gV}{mg:Str->Option NB}{base:Heap}{g:GG}
theorem KY {st:Stmt}{c PT:Addr} (F:Fun K x x st f fd) (S:az N ps (aj st)) (M:Mkr K mg base fd c PT)
  (hbd:bW st=rows++[.Return (some (.Lambda params body scope pos)) rpos]) (hdef:∀env,defaultsOf params env=([],[]))
  (hcl:∀L cdv , ∃clos,closureFor scope (envOfC x (aj st) L f cdv)=pure clos/\(∀z c,clos.lookup z=some c->(envOfC x (aj st) L f cdv).cells.lookup z=some c)/\∀z∈ys,∃c,clos.lookup z=some c)
  (hys:∀z∈ys,(aj st).names.lookup z=some .cell) (hix:ix.map (fun i=>N[i]?)=ys.map some) (T:oy lf y (x++".<locals>." ++ "<lambda>") ys params body scope)
  (hb:∀cdv A outer s H E , fD k (A.deeper (envOfC x (aj st) s.heap.objs.size f cdv)) →
   PSs (gg CX0 P w K mg base N x (aj st) f cdv A outer s H E).nox rows (tMS K g E00 mb)):eK P w K mg base CX0 (k+1) f fd ps (spM K g ps.length (ES N.length mb lf ix)):=by
 obtain⟨oc,od,kV,doc,pm,an,cdv,ct,osl,rfl,lk,hcd⟩:=F.ex
 have hmk:zV (Oy x x (eh st) (bW st) (aj st) .none kV doc pm an cdv ct)=some pos:=by
  unfold zV Oy
  simp_all
 have hT:=yF lk M.code M.hd hmk
 obtain rfl:cdv=.ref c:=M.code
 refine x9 lk hcd S (fun vs H Q E h=>h.1) hbd fun A outer s H vs Q E hr hsp=>?_
 obtain⟨hl,α,ds,h,rs,hh,w1⟩:=hsp
 refine⟨_,fun σ H1=>∃α1 e h1 cs,Ext K α H α1 H1/\dM K g α1 H1 e σ h1/\nM ix e=some cs/\aS K g α H Q (.clo lf cs) h1,(hb (.ref c) A outer s H E hr).nox,?_,fun σ H1 s1 J hR=>?_⟩
 ·refine tMS.use ⟨hh,lN rs⟩ w1.bind fun fl h' H' α' e r kk=>?_
  cases fl with
  | nx e'=>
   intro σ' s'
   dsimp only at kk
   cases ec:nM ix e' with
   | none=>rw[ec] at kk;exact kk.elim
   | some cs=>rw[ec] at kk;exact⟨α',e',h',cs,e,s',ec,kk⟩
  | bk e'=>exact kk.elim
  | ct e'=>exact kk.elim
  | rt d=>exact kk.elim
 ·obtain⟨α1,e,h1,cs,ex,sr,ec,po⟩:=hR
  obtain⟨clos,hc1,hc2,hc3⟩:=hcl s.heap.objs.size (.ref c)
  obtain⟨vs',pv,rds⟩:=oj sr.vs hix ec
  have pv2:Paired (fun z v=>(∃c,clos.lookup z=some c)/\(aj st).names.lookup z=some .cell/\∃i:Nat,N[i]?=some z/\σ[i]?=some (some v)) ys vs':=by
   clear ec rds hix T hcl
   induction pv with
   | nil=>exact .nil
   | cons q t ih=>exact .cons ⟨hc3 _ (NG ..),hys _ (NG ..),q⟩ (ih (fun z hz=>hys z (ox _ hz)) (fun z hz=>hc3 z (ox _ hz)))
  refine RU (thn (Bu J rfl (hdef _) rfl rfl M.hd M.bat M.ne hT (fun f' q e1 e2=>BQ M.uq hT e1 e2) hc1 hc2 (fun _=>rfl) T sr.heap pv2 rds) fun u s2 md=>?_)
  obtain⟨p,H2,rfl,os,gn,hok,un,ex2,hr2,rd,_,_⟩:=md
  exact⟨_,rfl,.ref p,H2,os.trans J.os,by rw[gn];exact J.bare,un,hok,rfl,po _ H2 α1 (ex.trans ex2) hr2 rd⟩
end
noncomputable def i6 (ts:List Addr) (Hs:Hp):Hp:=fun b=>if b∈ts then some (.tbl #[]) else Hs b
theorem zP {P:NW}{w:Oo}{K:gV}{mg mb:Str->Option NB}{k:Nat}{fa a:Addr}{fd:QW}{x:Str}{sp:Sp}{s₁:NF}{vs:List NB}{ns:List Int}{ts:List Addr}
  (KX:K.In s₁.heap) (hns:s₁.heap.Ns mainGlobals mg) (hb:s₁.heap.Ns builtinsNs mb) (hbb:∀x:Str,x≠"__name__" -> mb x=bootBuiltins x) (hlim:s₁.heap.NoLimit) (hg:s₁.gens = #[])
  (hbm:∃bm ob,mg "__builtins__" = some (.ref bm)/\bm≠builtinsNs/\s₁.heap.get? bm=some ob/\ob.cls=.type "module" /\ ob.dict=some builtinsNs/\ob.data=.plain)
  (hts:∀P∈ts,s₁.heap.get? P=some (Po #[])) (hct:∀P∈ts,∃c,PySem.W.CodeHd s₁.heap c P) (hKt:∀P∈ts,K.lookup P=none)
  (ha:s₁.heap.get? a=some { cls:=.type "list", data:=.seq vs.toArray }) (hi:Rf vs ns) (hl:ns.length<=sizeLine) (hr:fD k callerA)
  (F:∀base:Heap,K.In base->base.Ns mainGlobals mg->(∀P∈ts,base.BuiltinsAt mg P)->eK P w K mg base CX0 k fa fd [x] sp) (hbind:∀(s:NF) (u:NB),Tc s fd ⟨[u],[]⟩ [(x,u)])
  (hsp:∀H:Hp,(∀P∈ts,H P=some (.tbl #[]))->Fro K H a (ns.map V.int)->sp [.ref a] H (fun v _=>v=.bl true) fun _ _ _=>False) :
  codeAny (model P w) callerA (.call (.ref fa) ⟨[.ref a],[]⟩) (fun r s'=>r=.ok (.ret (.bool true))/\OldK s₁.heap s'.heap/\s'.os=s₁.os/\Sk s'.gens) s₁:=by
 have rv:=qZ hi
 have lenV:=hi.length
 have aT:a∉ts:=fun z=>by simp_all
 have core:∀Hs:Hp,LY Hs->Fro K (i6 ts Hs) a (ns.map V.int)->HOk P w Hs s₁.heap->(∀b,Hs b≠none->b=a)->(Hs a≠none->K.lookup a=none) →
   codeAny (model P w) callerA (.call (.ref fa) ⟨[.ref a],[]⟩) (fun r s'=>r=.ok (.ret (.bool true))/\OldK s₁.heap s'.heap/\s'.os=s₁.os/\Sk s'.gens) s₁:=by
  intro Hs hO hS hok0 hA hK
  have inT:∀{b:Addr},b∈ts->i6 ts Hs b=some (.tbl #[]):=fun h=>by unfold i6;simp_all
  have offT:∀{b:Addr},b∉ts->i6 ts Hs b=Hs b:=fun h=>by unfold i6;simp_all
  have hok:HOk P w (i6 ts Hs) s₁.heap:=fun b u e=>by
   by_cases hb:b∈ts
   ·rw[inT hb] at e;cases e;exact hts b hb
   ·rw[offT hb] at e
    refine(hok0 b u e).lU (fun _ _ _ z=>z) (fun c z=>?_) fun c xs z=>?_
    ·grind
    grind
  have non:∀{b:Addr} {o:Obj},s₁.heap.get? b=some o->(∀a n,o.data≠.seq a n)->(∀a,o.data≠.fields a)->i6 ts Hs b=none:=fun{b o} e d1 d2=>by
   by_cases hb:b∈ts
   ·grind
   grind
  have base_of:∀{b:Addr} {o:Obj},s₁.heap.get? b=some o->i6 ts Hs b=none->(qG s₁.heap (i6 ts Hs)).get? b=some o:=fun e n=>Co e n
  have nsK:∀{b:Addr} {m:Str->Option NB},s₁.heap.Ns b m->(qG s₁.heap (i6 ts Hs)).Ns b m:=fun{b m} ⟨o,es,ep,e,d,r⟩=>⟨o,es,ep,base_of e (non e (fun _ _ z=>by rw[d] at z;cases z) fun _ z=>by rw[d] at z;cases z),d,r⟩
  have hKb:K.In (qG s₁.heap (i6 ts Hs)):=fun b o e=>base_of (KX b o e) (by
   grind)
  have hM:Mod K mg (qG s₁.heap (i6 ts Hs)):=⟨hKb,nsK hns,⟨mb,nsK hb,hbb⟩,let ⟨mc,h1,h2⟩:=hlim;⟨mc,nsK h1,h2⟩⟩
  have hBA:∀P∈ts,(qG s₁.heap (i6 ts Hs)).BuiltinsAt mg P:=fun PT hP=>by
   obtain⟨bm,ob,b1,b2,b3,b4,b5,b6⟩:=hbm
   refine⟨bm,ob,b1,b2,fun z=>?_,fun z=>?_,base_of b3 (non b3 (fun _ _ z=>by rw[b6] at z;cases z) fun _ z=>by rw[b6] at z;cases z),b4,b5,b6⟩
   ·obtain⟨o,es,ep,e,d,_⟩:=hns
    rw[<- z,b3] at e;cases e;rw[b6] at d;cases d
   grind
  have e0:vd P w K mg (qG s₁.heap (i6 ts Hs)) callerA [] s₁ (i6 ts Hs):=⟨rfl,hM,fun b o e=>EL e,Th (zW _ _),trivial,fun b hb=>absurd (show b∈([]:List Addr) from hb) (by simp),hok,.of_eq hg⟩
  refine Pg ((F _ hKb (nsK hns) hBA).run callerA [] s₁ (i6 ts Hs) ⟨[.ref a],[]⟩ [.ref a] [.ref a] _ _ hr e0 (hbind s₁ (.ref a)) (.cons rfl .nil) (hsp _ (fun P hP=>inT hP) hS)) fun r s' h=>?_
  cases r with
  | error e=>exact h.elim
  | ok fl=>
   cases fl with
   | next=>exact QD h
   | brk=>exact QD h
   | cont=>exact QD h
   | ret u=>
    obtain⟨v,H',os,bare,un,hok',r',q⟩:=h
    have q':v=.bl true:=q
    subst q'
    obtain rfl:u=Tx true:=r'
    have old:∀b o,s₁.heap.get? b=some o->b∉ts->s'.heap.get? b=some o:=fun b o e hb=>by
     cases q:i6 ts Hs b with
     | none=>exact un.keep b o e q (by intro z;exact absurd (show b∈([]:List Addr) from z) (by simp)) (by simp)
     | some u=>
      rw[offT hb] at q
      rcases hO b with z | ⟨ob,xs,z⟩
      ·rw[q] at z;cases z
      ·have z2:=un.kr b ob _ ((offT hb).trans z)
       obtain⟨e1,_⟩:=hok0 b _ z
       obtain⟨e2,_⟩:=hok' b _ z2
       grind
    have grown:∀b∈ts,∃ps,s'.heap.get? b=some (Po ps):=fun b hb=>by
     obtain⟨more,e1⟩:=un.kW b _ (inT hb)
     exact⟨_,hok' b _ e1⟩
    refine⟨rfl,⟨fun b o e=>?_,fun b o e=>?_⟩,os,bare⟩
    ·by_cases hb:b∈ts
     ·obtain⟨ps,e1⟩:=grown b hb
      obtain⟨c,C⟩:=hct b hb
      have e2:=hts b hb
      rw[e] at e2;cases e2
      exact .inr (.inl ⟨(C.tab (hts b hb)).isCodeTable,rfl,#[],ps,rfl,by rw[e1];simp⟩)
     ·exact .inl (old b o e hb)
    ·by_cases hb:b∈ts
     ·obtain⟨ps,e1⟩:=grown b hb;exact⟨_,e1⟩
     ·exact⟨o,old b o e hb⟩
 cases hk:K.lookup a with
 | some o=>
  have e:=KX a o hk
  rw[ha] at e
  cases e
  refine core (fun _=>none) (fun _=>.inl rfl) (.inr ⟨_,vs.toArray,_,hk,rfl,rfl,rfl,by simp_all,by lia⟩) (fun b u z=>by have z':(none:Option HO)=some u:=z;cases z') (fun b z=>absurd rfl z) fun z=>absurd rfl z
 | none=>
  refine core (fun b=>if b=a then some (.frz { cls:=.type "list", data:=.seq vs.toArray } (.lst (ns.map V.int))) else none) (fun b=>?_) (.inl ⟨{ cls:=.type "list", data:=.seq vs.toArray },?_⟩) (fun b u z=>?_) (fun b z=>?_) fun _=>hk
  ·by_cases hb:b=a
   ·exact .inr ⟨_,_,if_pos hb⟩
   ·exact .inl (if_neg hb)
  ·unfold i6;rw[if_neg aT];exact if_pos rfl
  ·by_cases hb:b=a
   ·have z':=(if_pos hb).symm.trans z
    cases z'
    subst hb
    exact⟨ha,by rw[NJ];exact hl,vs,_,rv,ha⟩
   ·have z':=(if_neg hb).symm.trans z
    cases z'
  ·by_cases hb:b=a
   ·exact hb
   ·exact absurd (if_neg hb) z
noncomputable def tabOf (K:gV) (c:Addr):Addr:=match K.lookup c with
 | some ⟨_,_,.fields vs,_⟩=>(match (vs[11]?:Option NB) with | some (.ref P)=>P | _=>0)
 | _=>0
noncomputable def HU (K:gV) (ts:List Addr):Bool:=(K.filterMap fun p=>jN K p.1).all (fun q=>ts.any (Tu q.1))&&ts.all fun P=>(K.lookup P).isNone&&K.any fun p=>match p.2.data with
 | .func fd=>(match fd.code with
  | .ref c=>O1 K c P
  | _=>false)
 | _=>false
noncomputable def E9 (K:gV) (ts:List Addr) (x:Str) (st:Stmt):Prop:=∃f fd c,Od K mainGlobals x=some (some (.ref f))/\Fun K x x st f fd/\fd.code=.ref c/\O1 K c (tabOf K c)=true/\ts.any (Tu (tabOf K c))=true/\Tu mainGlobals (tabOf K c)=false
noncomputable def zK (K:gV) (mg:Str->Option NB) (base:Heap) (x:Str) (st:Stmt):Prop:=∀f fd,mg x=some (.ref f)->Fun K x x st f fd->∃c PT,Mkr K mg base fd c PT
theorem Ks {K:gV}{st:Stmt}{kV doc pm ct:NB} (a:Od K mainGlobals x=some (some (.ref f)))
  (l:K.lookup f=some ⟨oc,od,.func (Oy x x (eh st) (bW st) (aj st) .none kV doc pm an (.ref c) ct),osl⟩) (cc:Qr K (.ref c) x=true) (k:OF K (.ref f)=true)
  (h1:O1 K c (tabOf K c)=true) (h2:ts.any (Tu (tabOf K c))=true) (h3:Tu mainGlobals (tabOf K c)=false):E9 K ts x st:=⟨f,_,c,a,xP l cc k,rfl,h1,h2,h3⟩
theorem zK.of {K:gV}{st:Stmt} (X:K.In h) (G:h.Ns mainGlobals mg) (hB:∀P∈ts,base.BuiltinsAt mg P) (hU:mkU K=true) (m:E9 K ts x st):zK K mg base x st:=by
 intro f fd hm F
 obtain⟨f2,fd2,c,a,F2,hc,h1,h2,h3⟩:=m
 have hm2:=Ql X G a
 rw[hm] at hm2
 cases hm2
 obtain⟨oc,od,osl,l1⟩:=cW F
 obtain⟨oc',od',osl',l2⟩:=cW F2
 rw[l1] at l2
 cases l2
 obtain⟨P,hP,e⟩:=PY.mp h2
 have e:=Nat.eq_of_beq_eq_true e
 refine⟨c,tabOf K c,hc,h1,hB _ (by simp_all),fun z=>?_,hU⟩
 simp_all
theorem Fu {k:Nat}{m:MF}{l:PySem.W.OpenLaw}{q:NW}{loose:List Str}{XP:(Str->Option NB)->Heap->Prop}{YP:Oo->Heap->Prop}{d:DefRec}{K:Params->gV}{ts:List Addr} (hn:l.most=some 63) (hdf:d.params.defaults=[]) (hr:fD k callerA)
  (hY:∀(w:Oo) (h:Heap),YP w h->(K w.params).In h) (hT:∀(w:Oo) (h:Heap),YP w h->∀P∈ts,h.get? P=some (Po #[])) (hI:∀P,HU (K P) ts=true)
  (ok:∀ns:List Int,ns.length<=63->∃h,m [.scr (ns.map D.int)] []=.ok (.bl true) h)
  (F:∀(w:Oo) (mg:Str->Option NB) (fa:Addr) (h:Heap),(K w.params).In h->h.Ns mainGlobals mg->mg d.name=some (.ref fa) →
   ∃fd:QW,(∀(s:NF) (u:NB),Tc s fd ⟨[u],[]⟩ [("_law_script", u)])/\∀base:Heap,(K w.params).In base->base.Ns mainGlobals mg->(∀P∈ts,base.BuiltinsAt mg P)->eK l.prog w (K w.params) mg base CX0 k fa fd ["_law_script"] (spM (K w.params) (gOf mg) 1 m)) :
  PySem.W.WalkO q loose XP YP l.row.toRowW d [] (fun f vs=>TL f vs):=by
 refine Att.uH hn hdf fun w aE s₁ mg mb fa o pm cd doc a vs ns G Y ho hd hcd hmg hobj hints hlen hg=>?_
 have KX:=hY w _ Y
 obtain⟨fd,hb,hF⟩:=F w mg fa _ KX G.T.g hmg
 have i:=hI w.params
 unfold HU at i
 obtain⟨i1,i2⟩:=Bool.and_eq_true_iff.mp i
 have tq:∀P∈ts,∃c,(K w.params).lookup P=none/\O1 (K w.params) c P=true:=fun P hP=>by
  have z:=Bool.and_eq_true_iff.mp (NZ.mp i2 P hP)
  obtain⟨p,_,y⟩:=PY.mp z.2
  split at y
  ·split at y
   ·rename_i c _;exact⟨c,by simpa using z.1,y⟩
   grind
  grind
 refine zP (sp:=fun vs H Q _=>∃a ns,vs=[V.ref a]/\ns.length<=63/\(∀P∈ts,H P=some (.tbl #[]))/\Fro (K w.params) H a (ns.map V.int)/\∀v H',v=V.bl true->Q v H') KX G.T.g G.T.b G.T.builtins G.T.nolimit hg G.T.bmain (hT w _ Y) (fun P hP=>let ⟨c,_,e⟩:=tq P hP;⟨c,RF KX e⟩) (fun P hP=>let ⟨_,e,_⟩:=tq P hP;e) hobj hints (N4 hlen (by decide)) hr
  (fun base kb nb bb=>(hF base kb nb bb).imp fun vs H Q E z=>?_) hb (fun H h1 h2=>⟨a,ns,rfl,hlen,h1,h2,fun _ _ z=>z⟩)
 obtain⟨a,ns,rfl,hl,hO,hS,hQ⟩:=z
 obtain⟨hh,e⟩:=ok ns hl
 refine⟨rfl,[],[.scr (ns.map D.int)],[],.cons (.scr hS (ax.ints ns)) .nil,⟨rfl,fun n m p z=>by simp at z,fun n p o z=>by simp at z,fun f q e=>.inl (hO _ ?_)⟩,?_⟩
 ·obtain⟨p,hp,z⟩:=PY.mp (NZ.mp i1 q (tS e))
  simp_all
 ·rw[e]
  intro v H' α' _ _ rd
  cases rd
  simp_all
noncomputable def ie (cells:List (Str × Addr)):List (Str × PM)->List (Str × Addr)->List (Str × Addr)
 | [],cs=>cs
 | (n,k)::r,cs=>ie cells r (if k == .free then (n,(cells.lookup n).getD 0)::cs else cs)
theorem zr {env:Env}:∀(ns:List (Str × PM)) (cs:List (Str × Addr)),(∀q∈ns,q.2=.free->(env.cells.lookup q.1).isSome=true) →
  (forIn ns cs fun(x:Str × PM) (r:List (Str × Addr))=>match x with
   | (name,kind)=>if (kind == .free)=true then do let c ← cellOf env name;pure (PH ((name,c)::r)) else pure (PH r):Sem (List (Str × Addr)))=pure (ie env.cells ns cs)
 | [],cs,_=>by rfl
 | (n,k)::r,cs,h=>by
  rw[List.forIn_cons]
  have ih:=fun cs=>zr r cs fun q hq=>h q (ox _ hq)
  by_cases hk:(k == .free)=true
  ·obtain⟨c,hc⟩:=P_.mp (h (n,k) (NG ..) (beq_iff_eq.mp hk))
   simp only[hk,ie,hc,cellOf]
   exact ih _
  ·simp only[Bool.not_eq_true] at hk
   simp only[hk,ie]
   grind
theorem zF (h:∀q∈scope.names,q.2=.free->(env.cells.lookup q.1).isSome=true):closureFor scope env=pure (ie env.cells scope.names []):=by
 exact(congrArg (fun m:Sem (List (Str × Addr))=>m >>= fun s=>pure s) (zr scope.names [] h)).trans (pure_bind _ _)
theorem oR {cells:List (Str × Addr)}{z:Str}{c:Addr}:∀(ns:List (Str × PM)) (cs:List (Str × Addr)),(∀q∈ns,q.2=.free->(cells.lookup q.1).isSome=true)->(∀z c,cs.lookup z=some c->cells.lookup z=some c)->(ie cells ns cs).lookup z=some c->cells.lookup z=some c
 | [],cs,_,h,e=>h z c e
 | (n,k)::r,cs,hf,h,e=>by
  refine oR r _ (fun q hq=>hf q (ox _ hq)) (fun z c=>?_) e
  split
  ·rename_i hk
   rw[List.lookup_cons]
   split
   ·rename_i hz
    intro q
    cases q
    obtain⟨c,hc⟩:=P_.mp (hf (n,k) (NG ..) (beq_iff_eq.mp hk))
    simp_all
   simp_all
  simp_all
theorem rj {cells:List (Str × Addr)}{z:Str}:∀(ns:List (Str × PM)) (cs:List (Str × Addr)),(∃c,cs.lookup z=some c)->∃c,(ie cells ns cs).lookup z=some c
 | [],cs,h=>h
 | (n,k)::r,cs,h=>by
  refine rj r _ ?_
  grind
theorem oh {cells:List (Str × Addr)}{z:Str}:∀(ns:List (Str × PM)) (cs:List (Str × Addr)),(z,Qj)∈ns->∃c,(ie cells ns cs).lookup z=some c
 | (n,k)::r,cs,h=>by
  rcases NQ.mp h with e | e
  ·cases e
   refine rj r _ ?_
   simp
  ·exact oh r _ e
section
variable {P:NW}{w:Oo}{K:gV}{mg:Str->Option NB}{base:Heap}{g:GG}
theorem G7 {x:Str}{st:Stmt}{f:Addr}{fd:QW}{N ps:List Str}{k:Nat}{mb:MS} (rows:List Stmt){params:R0}{body:Expr}{scope:Ru}{pos rpos:Pos} (lf y:Str) (ys:List Str) (ix:List Nat){c PT:Addr} (F:Fun K x x st f fd) (S:az N ps (aj st)) (M:Mkr K mg base fd c PT)
  (hbd:bW st=rows++[.Return (some (.Lambda params body scope pos)) rpos]) (hdef:∀env,defaultsOf params env=([],[]))
  (hfr:∀q∈scope.names,q.2=.free->(aj st).names.lookup q.1=some .cell) (hyf:∀z∈ys,(z,Qj)∈scope.names)
  (hix:ix.map (fun i=>N[i]?)=ys.map some) (T:oy lf y (x++".<locals>." ++ "<lambda>") ys params body scope)
  (hb:∀(cdv:NB) (A:Om) (outer:List Env) (s:NF) (H:Hp) (E:XK),fD k (A.deeper (envOfC x (aj st) s.heap.objs.size f cdv)) →
   PSs (gg CX0 P w K mg base N x (aj st) f cdv A outer s H E).nox rows (tMS K g E00 mb)):eK P w K mg base CX0 (k+1) f fd ps (spM K g ps.length (ES N.length mb lf ix)):=by
 refine KY F S M hbd hdef (fun L cdv=>?_) (fun z hz=>hfr (z,.free) (hyf z hz) rfl) hix T hb
 have hs:∀q∈scope.names,q.2=.free->((envOfC x (aj st) L f cdv).cells.lookup q.1).isSome=true:=fun q hq e=>PN _ _ _ (.inl (hfr q hq e))
 exact⟨_,zF hs,fun z c e=>oR scope.names [] hs (fun _ _ z=>nomatch z) e,fun z hz=>oh scope.names [] (hyf z hz)⟩
end
end L2.FE
namespace L2.FE
open PySem
section
variable {β γ:Type}{h h1:Hh}{env:En}
@[simp] theorem eT {f:β->Hh->R γ}:(R.ok b h).bind f=f b h:=NK rfl rfl
@[simp] theorem KW:(R.bad).bind f=.bad:=NK rfl rfl
@[simp] theorem Kh [Decidable c]{a b:R β}{f:β->Hh->R γ}:(if c then a else b).bind f=if c then a.bind f else b.bind f:=by split<;>rfl
@[simp] theorem e_C:cC d env h=.ok d h:=NK rfl rfl
@[simp] theorem LU {r:En}:af 0 (some d::r) h=.ok d h:=NK rfl rfl
@[simp] theorem MQ {r:En}:af (i+1) (x::r) h=af i r h:=NK rfl rfl
@[simp] theorem Nf:ao f a b env h=(a env h).bind fun x h1=>(b env h1).bind fun y h2=>f x y h2:=NK rfl rfl
@[simp] theorem Nw:cUn f a env h=(a env h).bind fun x h1=>f x h1:=NK rfl rfl
@[simp] theorem Ng:ak env h=.ok [] h:=NK rfl rfl
@[simp] theorem LP:aa a r env h=(a env h).bind fun x h1=>(r env h1).bind fun xs h2=>.ok (x::xs) h2:=NK rfl rfl
@[simp] theorem Ly:ah f a env h=(a env h).bind f:=NK rfl rfl
@[simp] theorem Ld:lI f o a env h=(o env h).bind fun x h1=>if isL x h1=true then (a env h1).bind fun xs h2=>f x xs h2 else .bad:=NK rfl rfl
@[simp] theorem LF:av f a env h=(a env h).bind f:=NK rfl rfl
@[simp] theorem Mv:fR a env h=(a env h).bind fun b h1=>.ok (!b) h1:=NK rfl rfl
@[simp] theorem Mx:mH a b env h=(a env h).bind fun x h1=>if x=true then b env h1 else .ok false h1:=NK rfl rfl
@[simp] theorem Nu:lC a b env h=(a env h).bind fun x h1=>if x=true then .ok true h1 else b env h1:=NK rfl rfl
@[simp] theorem L4:cIf c a b env h=(c env h).bind fun x h1=>if x=true then a env h1 else b env h1:=NK rfl rfl
@[simp] theorem Nb:asB (.bl b) h=.ok b h:=NK rfl rfl
@[simp] theorem Mp:yG a b env h=(a env h).bind fun x h1=>(asB x h1).bind fun k h2=>if k=true then b env h2 else .ok (.bl false) h2:=NK rfl rfl
@[simp] theorem Lx:AN a env h=(a env h).bind fun x h1=>(asB x h1).bind fun k h2=>.ok (.bl (!k)) h2:=NK rfl rfl
@[simp] theorem La:iJ f f' a b c env h=(a env h).bind fun x h1=>(b env h1).bind fun y h2=>(f x y h2).bind fun z h3=>(asB z h3).bind fun k h4=>if k=true then (c env h4).bind fun w h5=>f' y w h5 else .ok (.bl false) h4:=NK rfl rfl
@[simp] theorem JC:cR env h=.ok none h:=NK rfl rfl
noncomputable def FJ:D->Hh->R (Option Int):=fun d h1=>match d with
 | .int i=>.ok (some i) h1
 | _=>.bad
@[simp] theorem Lg:FJ (.int i) h=.ok (some i) h:=NK rfl rfl
@[simp] theorem Lr:dY a env h=(a env h).bind FJ:=NK rfl rfl
@[simp] theorem s_:cY nl a l u env h=(a env h).bind fun x h1=>(l env h1).bind fun lo h2=>(u env h2).bind fun hi h3=>zG nl x lo hi h3:=NK rfl rfl
@[simp] theorem Mc:aQ env h=.ok (.nx env) h:=NK rfl rfl
@[simp] theorem M8:Dy env h=.ok (.bk env) h:=NK rfl rfl
noncomputable def Ez (b:MS):Fl->Hh->R Fl:=fun fl h1=>match fl with
 | .nx e=>b e h1
 | fl=>.ok fl h1
@[simp] theorem Jg:Ez b (.nx e) h=b e h:=NK rfl rfl
@[simp] theorem Nz:Ez b (.bk e) h=.ok (.bk e) h:=NK rfl rfl
@[simp] theorem Nx:Ez b (.rt d) h=.ok (.rt d) h:=NK rfl rfl
@[simp] theorem F3:ay a b env h=(a env h).bind (Ez b):=by
 rfl
@[simp] theorem MJ:dA a env h=(a env h).bind fun _ h1=>.ok (.nx env) h1:=NK rfl rfl
@[simp] theorem M1:aM a env h=(a env h).bind fun d h1=>.ok (.rt d) h1:=NK rfl rfl
@[simp] theorem Na:bP c a b env h=(c env h).bind fun x h1=>if x=true then a env h1 else b env h1:=NK rfl rfl
@[simp] theorem M6:aX i a env h=(a env h).bind fun d h1=>.ok (.nx (env.set i (some d))) h1:=NK rfl rfl
@[simp] theorem Ig:gN i d env h=.ok (env.set i (some d)) h:=NK rfl rfl
@[simp] theorem M9:gT2 i j (.tup [x,y]) env h=.ok ((env.set i (some x)).set j (some y)) h:=NK rfl rfl
@[simp] theorem M5:BU i j a env h=(a env h).bind fun d h1=>(gT2 i j d env h1).bind fun e h2=>.ok (.nx e) h2:=NK rfl rfl
@[simp] theorem M_:zU i f a env h=(af i env h).bind fun x h0=>(a env h0).bind fun y h1=>(f x y h1).bind fun z h2=>.ok (.nx (env.set i (some z))) h2:=NK rfl rfl
@[simp] theorem Lh:sj f o i v env h=(v env h).bind fun x h1=>(o env h1).bind fun y h2=>(i env h2).bind fun z h3=>(f y z x h3).bind fun _ h4=>.ok (.nx env) h4:=NK rfl rfl
@[simp] theorem K9:tF o i v env h=(o env h).bind fun x h1=>(i env h1).bind fun y h2=>(C4 x y h2).bind fun z h3=>(v env h3).bind fun u h4=>(qY z u h4).bind fun t h5=>(iQ x y t h5).bind fun _ h6=>.ok (.nx env) h6:=NK rfl rfl
noncomputable def D4:Fl->Hh->R D:=fun fl h1=>match fl with
 | .rt d=>.ok d h1
 | .nx _=>.ok .non h1
 | _=>.bad
@[simp] theorem Ny:D4 (.rt d) h=.ok d h:=NK rfl rfl
@[simp] theorem NA:D4 (.nx e) h=.ok .non h:=NK rfl rfl
theorem aV:bR n m ds h=(m (ds.map some++N1 (n - ds.length) none) h).bind D4:=by
 rfl
section
variable {nl:NL}
@[simp] theorem LS:cH nl (.int i) (.int j) h=.ok (.int (i+j)) h:=NK rfl rfl
@[simp] theorem Lf:qY (.int i) (.int j) h=.ok (.int (i+j)) h:=NK rfl rfl
@[simp] theorem Lv:a9 (.int i) (.int j) h=.ok (.int (i - j)) h:=NK rfl rfl
@[simp] theorem LO:h8 (.int i) h=.ok (.int (-i)) h:=NK rfl rfl
@[simp] theorem Nh:dLt (.int i) (.int j) h=.ok (.bl (decide (i<j))) h:=by unfold dLt;rw[pe];rfl
@[simp] theorem Nd:dLe (.int i) (.int j) h=.ok (.bl (decide (i<=j))) h:=by unfold dLe;rw[sY];rfl
@[simp] theorem M7:dGt (.int i) (.int j) h=.ok (.bl (decide (j<i))) h:=by unfold dGt;rw[pe];rfl
@[simp] theorem Nc:dGe (.int i) (.int j) h=.ok (.bl (decide (j<=i))) h:=by unfold dGe;rw[sY];rfl
@[simp] theorem LL:mT nl (.int i) (.int j) h=if sml i=true/\sml j=true then .ok (.int (i*j)) h else .bad:=NK rfl rfl
@[simp] theorem Me:Ao (.int i) (.int j) h=if 0<j/\sml j=true then .ok (.int (i / j)) h else .bad:=NK rfl rfl
@[simp] theorem LX:qh (.int i) (.int j) h=if 0<j then .ok (.int (i % j)) h else .bad:=NK rfl rfl
@[simp] theorem Mn:Ht (.int i) (.int j) h=if 0<=j/\j.natAbs<=1000/\sml i=true then .ok (.int (i ^ j.toNat)) h else .bad:=NK rfl rfl
@[simp] theorem Lk:Di [.int i,.int j] h=.ok (.int (max i j)) h:=by
 have:(if j > i then j else i)=max i j:=by split<;>lia
 rw[<- this];rfl
@[simp] theorem L6:yq [.int i,.int j] h=.ok (.int (min i j)) h:=by
 have:(if j<i then j else i)=min i j:=by split<;>lia
 rw[<- this];rfl
@[simp] theorem L9:A0 [.bl b] h=.ok (.int (if b then 1 else 0)) h:=NK rfl rfl
@[simp] theorem Nl:gG ds h=if ds.length<=1000000 then .ok (.tup ds) h else .bad:=NK rfl rfl
@[simp] theorem Nk:eX nl ds h=if ds.length<=1000000 then nl ds h else .bad:=NK rfl rfl
@[simp] theorem LB:qu ds h=.ok (.ref h.length) (h++[.lst ds]):=NK rfl rfl
@[simp] theorem Md:aF ds h=.ok (.frl ds) h:=NK rfl rfl
@[simp] theorem L0:b_ [.tup ds] h=.ok (.int ds.length) h:=NK rfl rfl
@[simp] theorem Mi:b_ [.frl ds] h=.ok (.int ds.length) h:=NK rfl rfl
@[simp] theorem MB:b_ [.scr ds] h=.ok (.int ds.length) h:=NK rfl rfl
noncomputable def ixK (ds:List D) (i:Int) (h:Hh):R D:=match atI ds i with
 | some d=>.ok d h
 | none=>.bad
@[simp] theorem K6:dIx (.tup ds) (.int i) h=ixK ds i h:=NK rfl rfl
@[simp] theorem Nm:dIx (.frl ds) (.int i) h=ixK ds i h:=NK rfl rfl
@[simp] theorem M0:dIx (.scr ds) (.int i) h=ixK ds i h:=NK rfl rfl
theorem mG (e:aH h n=some ds):dIx (.ref n) (.int i) h=ixK ds i h:=by
 have z:jw (.ref n) h=some ds:=e
 delta dIx;rw[z];rfl
theorem Br {ds:List D}{i:Int}{d:D} (e:atI ds i=some d):ixK ds i h=.ok d h:=by simp only[ixK,e]
theorem Bi {j:Nat}{v:β} (h:xs[j]?=some v) (e:i=(j:Int)):atI xs i=some v:=by rw[e];exact El h
theorem iK {j:Nat} (e:i=(j:Int)) (e2:ds[j]?=some d):ixK ds i h=.ok d h:=Br (Bi e2 e)
noncomputable def gI (ns:List Int) (i:Nat):Int:=ns.getD i 0
theorem dS (hj):gI ns j=ns[j]:=by
 unfold gI;simp_all
theorem GL (hj:j<ns.length):gI ns j∈ns:=by rw[dS hj];simp
theorem eS {j:Nat} (e:i=(j:Int)) (hj:j<ns.length):ixK (ns.map D.int) i h=.ok (.int (gI ns j)) h:=by
 refine iK e ?_
 rw[NU,NM hj,dS hj];rfl
@[simp] theorem Ni:ixK (d::ds) 0 h=.ok d h:=iK rfl rfl
@[simp] theorem Nj:ixK (d::d1::ds) 1 h=.ok d1 h:=iK rfl rfl
theorem AX:atI (xs++[x]) (-1)=some x:=by
 unfold atI ixN
 rw[if_neg (by decide),if_pos (by grind)]
 have:((-1:Int)+((xs++[x]).length:Nat)).toNat=xs.length:=by grind
 simp_all
@[simp] theorem uI:ixK (xs++[x]) (-1) h=.ok x h:=Br AX
@[simp] theorem Lj:zG nl (.tup ds) lo hi h=.ok (.tup (cutD ds lo hi)) h:=NK rfl rfl
@[simp] theorem LQ:zG nl (.frl ds) lo hi h=nl (cutD ds lo hi) h:=NK rfl rfl
@[simp] theorem MU:zG nl (.scr ds) lo hi h=nl (cutD ds lo hi) h:=NK rfl rfl
@[simp] theorem Lq:cH nl (.tup a) (.tup b) h=if a.length+b.length<=1000000 then .ok (.tup (a++b)) h else .bad:=NK rfl rfl
@[simp] theorem MM:cH nl (.frl a) (.frl b) h=if a.length+b.length<=1000000 then nl (a++b) h else .bad:=NK rfl rfl
@[simp] theorem Mm:mT nl (.frl a) (.int k) h=if k.natAbs<=1000000/\a.length*k.toNat<=1000000 then nl (N1 k.toNat a).flatten h else .bad:=NK rfl rfl
@[simp] theorem MV:oQ [.frl ds] h=.ok (.tup ds) h:=NK rfl rfl
@[simp] theorem sZ {ns:List Int}:fI [.frl (ns.map D.int)] h=.ok (.int ns.sum) h:=by simp only[fI,jw,iw]
@[simp] theorem Mo:gS (.bl b) h=.ok b h:=NK rfl rfl
@[simp] theorem Nr:dEq (.int i) (.int j) h=.ok (.bl (i == j)) h:=NK rfl rfl
@[simp] theorem MZ:dNe (.int i) (.int j) h=.ok (.bl (!(i == j))) h:=NK rfl rfl
@[simp] theorem LR:sf "int" (.int i) h=.ok (.bl true) h:=NK rfl rfl
@[simp] theorem Mt:sf "bool" (.int i) h=.ok (.bl false) h:=NK rfl rfl
@[simp] theorem Ma:sf "tuple" (.tup ds) h=.ok (.bl true) h:=NK rfl rfl
@[simp] theorem f7 {t:Hh}:aH (h++.lst ds::t) h.length=some ds:=by
 unfold aH;simp
@[simp] theorem tT {t:Hh}:(h++o::t).set h.length o'=h++o'::t:=by
 simp
theorem HP {n:Nat}{ds:List D} (e:aH h n=some ds):isL (.ref n) h=true:=by simp[isL,e]
theorem uz (e:aH h n=some ds):fM (.ref n) [d] h=if ds.length<1000000 then .ok .non (h.set n (.lst (ds++[d]))) else .bad:=by delta fM;simp_all
theorem nF (e:aH h n=some ds) (e2:ixN ds.length i=some j):iQ (.ref n) (.int i) v h=.ok () (h.set n (.lst (ds.set j v))):=by delta iQ;simp_all
@[simp] theorem Lb {t:Hh}:b_ [.ref h.length] (h++.set k::t)=.ok (.int k.length) (h++.set k::t):=by
 have:(h++O.set k::t)[h.length]?=some (.set k):=by rw[NR (NC _)];simp
 delta b_;dsimp only;rw[this]
@[simp] theorem ML:A_ [.tup (ns.map D.int)] h=if ns.length<=4000 then .ok (.ref h.length) (h++[.set (unl ns)]) else .bad:=by delta A_;dsimp only;rw[iw]
@[simp] theorem Ls {t:Hh}:isL (.ref h.length) (h++.lst ds::t)=true:=HP f7
@[simp] theorem IA {t:Hh}:fM (.ref h.length) [d] (h++.lst ds::t)=if ds.length<1000000 then .ok .non (h++.lst (ds++[d])::t) else .bad:=by rw[uz f7,tT]
@[simp] theorem Nv {t:Hh}:dIx (.ref h.length) (.int i) (h++.lst ds::t)=ixK ds i (h++.lst ds::t):=mG f7
theorem E5 {n j:Nat} (e:i=(j:Int)) (hj:j<n):ixN n i=some j:=by
 subst e
 unfold ixN
 simp_all
end
@[simp] theorem LI:dn eD a env h=(a env h).bind eD:=NK rfl rfl
@[simp] theorem MN:dn qt a env h=(a env h).bind qt:=NK rfl rfl
@[simp] theorem LV:eD [.int j] h=if j.natAbs<=1000000 then .ok (.snap (cX 0 j.toNat)) h else .bad:=NK rfl rfl
@[simp] theorem LM:qt [.int i,.int j] h=if i.natAbs<=1000000/\j.natAbs<=1000000 then .ok (.snap (cX i (j - i).toNat)) h else .bad:=NK rfl rfl
@[simp] theorem Nq:cw a env h=(a env h).bind vE:=NK rfl rfl
@[simp] theorem L8:mx a env h=(a env h).bind uw:=NK rfl rfl
@[simp] theorem MY:vE (.tup ds) h=.ok (.snap ds) h:=NK rfl rfl
@[simp] theorem Np:vE (.frl ds) h=.ok (.snap ds) h:=NK rfl rfl
theorem Jf (e:aH h n=some ds):vE (.ref n) h=.ok (.live n) h:=by simp only[vE,e]
noncomputable def JT (tg:D->En->Hh->R En) (body:MS) (env:En):Src->Hh->R Fl:=fun sr h1=>match sr with
 | .snap ds=>eM tg body ds env h1
 | .live n=>lS (Src.live n).rdr tg body ((aH h1 n).getD []).length 0 env h1
 | .liveE n=>lS (Src.liveE n).rdr tg body ((aH h1 n).getD []).length 0 env h1
@[simp] theorem MR:JT tg body env (.snap ds) h=eM tg body ds env h:=NK rfl rfl
@[simp] theorem Nn:eN mi tg body env h=(mi env h).bind (JT tg body env):=by
 congr 1
noncomputable def J8 (nl:NL) (tt:MT) (te:ME) (ee:D->En):Src->Hh->R D:=fun sr h1=>if sr.fuel h1<=1000000 then
 (match sr with
  | .snap ds=>cx tt te ee ds h1
  | .live n=>iU (Src.live n).rdr tt te ee ((aH h1 n).getD []).length 0 [] h1
  | .liveE n=>iU (Src.liveE n).rdr tt te ee ((aH h1 n).getD []).length 0 [] h1).bind nl else .bad
@[simp] theorem LG:bT nl mi ix tt te env h=(mi env h).bind (J8 nl tt te (mw ix env)):=NK rfl rfl
@[simp] theorem Lc:J8 nl tt te ee (.snap ds) h=if ds.length<=1000000 then (cx tt te ee ds h).bind nl else .bad:=NK rfl rfl
@[simp] theorem Iz {lo:Int}{n:Nat}:(cX lo n).length=n:=by simp[cX]
@[simp] theorem K8 (x:Option β):Option.join (some x)=x:=by rfl
@[simp] theorem M4:mw ix env=fun d=>some d::ix.map fun i=>(env[i]?).join:=NK rfl rfl
@[simp] theorem K_:xk f c b env h=gQ c b f env h:=NK rfl rfl
noncomputable def Hl (tg:D->En->Hh->R En) (body:MS) (ds:List D):Fl->Hh->R Fl:=fun fl h2=>match fl with
 | .nx e=>eM tg body ds e h2
 | .ct e=>eM tg body ds e h2
 | .bk e=>.ok (.nx e) h2
 | .rt d=>.ok (.rt d) h2
theorem yP:eM tg body [] env h=.ok (.nx env) h:=rfl
theorem jB:eM tg body (d::ds) env h=(tg d env h).bind fun e1 h1=>(body e1 h1).bind (Hl tg body ds):=rfl
@[simp] theorem Kj:Hl tg body ds (.nx e) h=eM tg body ds e h:=NK rfl rfl
@[simp] theorem M3:Hl tg body ds (.bk e) h=.ok (.nx e) h:=NK rfl rfl
theorem AA (ns):gB (ns.map D.int)=(ND ns.length).map fun(i:Nat)=>D.tup [.int i,.int (gI ns i)]:=by
 unfold gB
 rw[NJ]
 apply Ow
 intro i hi
 have hi:=N3.mp hi
 rw[OE,NU,NM hi,dS hi];rfl
theorem oo {σ X:Type}{tg:D->En->Hh->R En}{body:MS} (E:σ->En) (G:σ->Hh) (enc:X->D) (f:σ->X->σ) (I:List X->σ->Prop) (st:∀s x r,I (x::r) s->I r (f s x)/\((tg (enc x) (E s) (G s)).bind body=.ok (.nx (E (f s x))) (G (f s x))\/(tg (enc x) (E s) (G s)).bind body=.ok (.ct (E (f s x))) (G (f s x)))) :
  ∀(xs:List X) (s:σ),I xs s->eM tg body (xs.map enc) (E s) (G s)=.ok (.nx (E (xs.foldl f s))) (G (xs.foldl f s))/\I [] (xs.foldl f s)
 | [],s,i=>⟨rfl,i⟩
 | x::xs,s,i=>by
  obtain⟨i1,e⟩:=st s x xs i
  obtain⟨e2,i2⟩:=oo E G enc f I st xs (f s x) i1
  refine⟨?_,i2⟩
  rw[NV,eM]
  rw[<- cL]
  rcases e with e | e<;>rw[e]<;>exact e2
theorem comp_map {X:Type}{tt:MT}{te:ME}{ee:D->En} (enc:X->D) (p:X->Bool) (g:X->D):∀(xs:List X),(∀x∈xs,tt (ee (enc x)) h=.ok (p x) h/\(p x=true->te (ee (enc x)) h=.ok (g x) h)) →
  cx tt te ee (xs.map enc) h=.ok ((xs.filter p).map g) h
 | [],_=>rfl
 | x::xs,st=>by
  obtain⟨e1,e2⟩:=st x NG
  have ih:=comp_map enc p g xs fun y hy=>st y (ox _ hy)
  rw[NV,cx,e1,eT]
  cases hp:p x with
  | false=>simp_all
  | true=>simp_all
theorem vt {X:Type} (enc) (g) (xs:List X) (st:∀x∈xs,te (ee (enc x)) h=.ok (g x) h):cx tt1 te ee (xs.map enc) h=.ok (xs.map g) h:=by
 have:=comp_map (tt:=tt1) enc (fun _=>true) g xs fun x hx=>⟨rfl,fun _=>st x hx⟩
 rw[Pk.mpr fun _ _=>rfl] at this
 lia
theorem hG (n):cX 0 n=(ND n).map fun(i:Nat)=>D.int i:=by
 apply Ow
 simp
theorem uB (p) (g) (st:∀i,i<n->tt (ee (.int (i:Nat))) h=.ok (p i) h/\(p i=true->te (ee (.int (i:Nat))) h=.ok (g i) h)) :
  cx tt te ee (cX 0 n) h=.ok (((ND n).filter p).map g) h:=by
 rw[hG,comp_map (fun(i:Nat)=>D.int i) p g (ND n) fun i hi=>st i (N3.mp hi)]
theorem fG (g) (st:∀i,i<n->te (ee (.int (i:Nat))) h=.ok (g i) h) :
  cx tt1 te ee (cX 0 n) h=.ok ((ND n).map g) h:=by
 rw[hG,vt (fun(i:Nat)=>D.int i) g (ND n) fun i hi=>st i (N3.mp hi)]
theorem yW {σ:Type} (enc) (n) (E:σ->En) (G:σ->Hh) (f) (I:Nat->σ->Prop) (s) (i0:I 0 s)
  (st:∀i s,i<n->I i s->I (i+1) (f s i)/\((tg (enc i) (E s) (G s)).bind body=.ok (.nx (E (f s i))) (G (f s i))\/(tg (enc i) (E s) (G s)).bind body=.ok (.ct (E (f s i))) (G (f s i)))) :
  eM tg body ((ND n).map enc) (E s) (G s)=.ok (.nx (E ((ND n).foldl f s))) (G ((ND n).foldl f s))/\I n ((ND n).foldl f s):=by
 have key:∀(k:Nat) (xs:List Nat) (s:σ),(∀j x,xs[j]?=some x->x=k+j/\x<n)->I k s->eM tg body (xs.map enc) (E s) (G s)=.ok (.nx (E (xs.foldl f s))) (G (xs.foldl f s))/\I (k+xs.length) (xs.foldl f s):=by
  intro k xs
  induction xs generalizing k with
  | nil=>intro s _ i;exact⟨rfl,i⟩
  | cons x xs ih=>
   intro s hx i
   obtain⟨h1,h2⟩:=hx 0 x rfl
   subst h1
   obtain⟨i1,e⟩:=st x s h2 i
   obtain⟨e2,i2⟩:=ih (x+1) (f s x) (fun j y hj=>by have:=hx (j+1) y hj;lia) i1
   refine⟨?_,by rw[OO];grind⟩
   rw[NV,eM,<- cL]
   rcases e with e | e<;>rw[e]<;>exact e2
 have hr:∀j x,(ND n)[j]?=some x->x=0+j/\x<n:=fun j x hj=>by
  grind
 have:=key 0 (ND n) s hr i0
 simp_all
theorem BY {σ:Type} (lo) (n) (E:σ->En) (G:σ->Hh) (f) (I:Nat->σ->Prop) (s) (i0:I 0 s)
  (st:∀i s,i<n->I i s->I (i+1) (f s i)/\((tg (.int (lo+(i:Nat))) (E s) (G s)).bind body=.ok (.nx (E (f s i))) (G (f s i))\/(tg (.int (lo+(i:Nat))) (E s) (G s)).bind body=.ok (.ct (E (f s i))) (G (f s i)))) :
  eM tg body (cX lo n) (E s) (G s)=.ok (.nx (E ((ND n).foldl f s))) (G ((ND n).foldl f s))/\I n ((ND n).foldl f s):=
 yW (fun(i:Nat)=>D.int (lo+i)) n E G f I s i0 st
theorem xq {c:MT}{b:MS} (n:Nat) (E:Nat->En) (G:Nat->Hh) (hc:∀i,i<n->c (E i) (G i)=.ok true (G i)) (hb:∀i,i<n->b (E i) (G i)=.ok (.nx (E (i+1))) (G (i+1))) (he:c (E n) (G n)=.ok false (G n)) :
  ∀(f:Nat),n<f->gQ c b f (E 0) (G 0)=.ok (.nx (E n)) (G n):=by
 have key:∀(k i f:Nat),i+k=n->k<f->gQ c b f (E i) (G i)=.ok (.nx (E n)) (G n):=by
  intro k
  induction k with
  | zero=>
   intro i f hi hf
   obtain⟨f,rfl⟩:∃g,f=g+1:=⟨f - 1,by lia⟩
   have:i=n:=by lia
   subst this
   rw[gQ,he];rfl
  | succ k ih=>
   intro i f hi hf
   obtain⟨f,rfl⟩:∃g,f=g+1:=⟨f - 1,by lia⟩
   rw[gQ,hc i (by lia),eT,hb i (by lia)]
   exact ih (i+1) f (by lia) (by lia)
 simp_all
noncomputable def Wf (h:Hh):Prop:=h.all (sD h.length)=true
mutual
theorem AK {j k:Nat} (h:j<=k):∀(d:D),jR j d=true->jR k d=true
 | .non,_=>rfl | .bl _,_=>rfl | .int _,_=>rfl | .str _,_=>rfl | .fn _,_=>rfl | .edic,_=>rfl | .exc _ _,_=>rfl
 | .clo _ ds,e=>by simp only[jR] at e ⊢;exact dX h ds e
 | .ref n,e=>by simp only[jR,decide_eq_true_eq] at e ⊢;lia
 | .tup ds,e=>by simp only[jR] at e ⊢;exact dX h ds e
 | .frl ds,e=>by simp only[jR] at e ⊢;exact dX h ds e
 | .scr ds,e=>by simp only[jR] at e ⊢;exact dX h ds e
theorem dX {j k:Nat} (h:j<=k):∀(ds:List D),cf j ds=true->cf k ds=true
 | [],_=>rfl
 | d::ds,e=>by
  simp only[cf,N_] at e ⊢
  exact⟨AK h d e.1,dX h ds e.2⟩
end
theorem zN (h:j<=k) (o) (e:sD j o=true):sD k o=true:=by
 cases o with
 | lst ds=>exact dX h ds e
 | set n=>rfl
 | dic kvs=>exact dX h _ e
 | dit kvs=>exact dX h _ e
theorem jD {k:Nat}:∀{ds:List D},(∀d∈ds,jR k d=true)->cf k ds=true
 | [],_=>rfl
 | d::ds,h=>by simp only[cf,N_];exact⟨h d NG,jD fun e he=>h e (ox _ he)⟩
@[simp] theorem rl {X:Type}{f:X->D}{xs:List X} (h:∀x,jR k (f x)=true):cf k (xs.map f)=true:=jD fun d hd=>by
 grind
@[simp] theorem ko {ns:List Int}:cf k (ns.map D.int)=true:=rl fun _=>rfl
theorem Wf.nil:Wf []:=rfl
theorem Wf.app (w:Wf h) (l:sD (h.length+1) o=true):Wf (h++[o]):=by
 unfold Wf at w ⊢
 rw[List.all_append,N2]
 simp only[Qh,Ti,SY,N_]
 refine⟨?_,l⟩
 rw[NZ] at w ⊢
 exact fun x hx=>zN (Tv _) x (w x hx)
noncomputable def deep:Nat->D->Bool
 | 0,_=>false
 | f+1,d=>match d with
  | .ref _=>false
  | .scr _=>false
  | .tup ds=>ds.all (deep f)
  | .frl ds=>ds.all (deep f)
  | .clo _ ds=>cf 0 ds
  | _=>true
theorem lz {f:D->Option D}:∀{ds:List D},(∀d∈ds,f d=some d)->lA f ds=some ds
 | [],_=>rfl
 | d::ds,h=>by simp only[lA,h d NG,lz fun e he=>h e (ox _ he)]
theorem g7 {k:Nat}{h:Hh}:∀(f:Nat) (d:D),deep f d=true->hZ k h f d=some d
 | 0,_,e=>by cases e
 | f+1,d,e=>by
  unfold deep at e
  cases d with
  | ref n=>cases e
  | scr n=>cases e
  | tup ds=>simp only[NZ] at e;show Tw D.tup (lA (hZ k h f) ds)=_;rw[lz fun d hd=>g7 f d (e d hd)];rfl
  | frl ds=>simp only[NZ] at e;show Tw D.frl (lA (hZ k h f) ds)=_;rw[lz fun d hd=>g7 f d (e d hd)];rfl
  | clo g ds=>show(if cf 0 ds=true then some (D.clo g ds) else none)=_;simp_all
  | _=>rfl
theorem pk (w:Wf h) (e:deep 8 d=true):eC h d (h++t)=.ok d h:=by
 unfold eC
 rw[Su rfl,if_pos (show h.all (sD h.length)=true from w),g7 8 d e]
theorem l6 {t:Hh} (w:Wf h) (e:ds.all (deep 7)=true):eC h (.ref h.length) (h++.lst ds::t)=.ok (.frl ds) h:=by
 unfold eC
 rw[Su rfl,if_pos (show h.all (sD h.length)=true from w)]
 have:hZ h.length (h++.lst ds::t) 8 (.ref h.length)=some (.frl ds):=by
  unfold hZ
  simp only[OH,f7]
  rw[NZ] at e
  rw[lz fun d hd=>g7 7 d (e d hd)];rfl
 rw[this]
@[simp] theorem JO:deep (f+1) (.int i)=true:=rfl
@[simp] theorem Le:deep (f+1) (.bl i)=true:=rfl
@[simp] theorem ID:deep (f+1) (.str i)=true:=rfl
@[simp] theorem Kg:deep (f+1) .non=true:=rfl
@[simp] theorem Iy:deep (f+1) .edic=true:=rfl
@[simp] theorem Ku:deep (f+1) (.tup ds)=ds.all (deep f):=rfl
@[simp] theorem Jn:deep (f+1) (.frl ds)=ds.all (deep f):=rfl
end
noncomputable def Ok (r:R β) (Q:β->Hh->Prop):Prop:=∃b h,r=.ok b h/\Q b h
section
variable {β γ:Type}{Q:β->Hh->Prop}{h h1 h2:Hh}
theorem Ok.mono {r:R β}{Q':β->Hh->Prop} (o:Ok r Q) (q:∀b h,Q b h->Q' b h):Ok r Q':=let ⟨b,h,e,z⟩:=o;⟨b,h,e,q b h z⟩
end
theorem sk {X:Type}{tg:D->En->Hh->R En}{body:MS}{QS:Fl->Hh->Prop} (enc:X->D) (I:En->Hh->Prop) :
  ∀(xs:List X) (env:En) (h:Hh),I env h->(∀x e h,x∈xs->I e h->Ok ((tg (enc x) e h).bind body) fun fl h2=>match fl with
   | .nx e=>I e h2
   | .ct e=>I e h2
   | .bk e=>QS (.nx e) h2
   | .rt d=>QS (.rt d) h2)->(∀e h,I e h->QS (.nx e) h)->Ok (eM tg body (xs.map enc) env h) QS
 | [],env,h,i,_,q=>⟨_,_,rfl,q _ _ i⟩
 | x::xs,env,h,i,st,q=>by
  obtain⟨fl,h2,e,z⟩:=st x env h NG i
  rw[NV,eM,<- cL,e]
  cases fl with
  | nx e'=>exact sk enc I xs e' h2 z (fun y e h hy=>st y e h (ox _ hy)) q
  | ct e'=>exact sk enc I xs e' h2 z (fun y e h hy=>st y e h (ox _ hy)) q
  | bk e=>exact⟨_,_,rfl,z⟩
  | rt d=>exact⟨_,_,rfl,z⟩
end L2.FE
namespace L2.FE
open PySem PySem.Spec PyProof.Rows
noncomputable def FZ (h:Hh) (n:Nat):Option (List (Key × D)):=match h[n]? with
 | some (.dic kvs)=>some kvs
 | _=>none
noncomputable abbrev PD (K:gV) (g:GG) (α:List Addr) (H:Hp):List (Key × D)->List (Key × V)->Prop:=Paired (fun(a:Key × D) (b:Key × V)=>a.1=b.1/\aJ K g α H a.2 b.2)
section
variable {K:gV}{g:GG}{α:List Addr}{H:Hp}{h:Hh}
theorem aU.dic (r:aU K g α H h) (e:FZ h n=some kvs) (hp:α[n]?=some p):∃kws,H p=some (.dK kws)/\PD K g α H kvs kws:=by
 unfold FZ at e
 cases eo:h[n]? with
 | none=>simp_all
 | some o=>
  rw[eo] at e
  cases o with
  | dic k=>cases e;exact r.here n p _ hp eo
  | _=>cases e
theorem PD.ext (e:Ext K α H α' H') (r:PD K g α H kvs kws):PD K g α' H' kvs kws:=Paired.JY e.toEx0 r
theorem aS.dic (w:aS K g α H Q (.ref h.length) (h++[.dic kvs])) (r:aU K g α H h) (rs:PD K g α H kvs kws) (hp:H p=none):Q (.ref p) (upd H p (.dK kws)):=by
 have x:=Ext.push (K:=K) (α:=α) (o:=.dK kws) hp
 exact w _ _ _ x (r.push hp ⟨_,bH,rs.ext x⟩) (.ref (by rw[<- r.len];simp))
end
end L2.FE
namespace L2
open PySem PySem.Spec PyProof.Rows
structure Gn (h h':Heap):Prop where
 up:h.UpToSlots h'
 there:∀b o,h.get? b=some o->∃o',h'.get? b=some o'
theorem Gn.trans {h h1 h2:Heap} (a:Gn h h1) (b:Gn h1 h2):Gn h h2:=⟨a.up.trans b.up,fun c o q=>let ⟨_,q'⟩:=a.there c o q;b.there c _ q'⟩
structure Fly (B:Heap) (l) (e) (C) (dc) (fl) (h):Prop where
 stays:B.StaysIn h
 new:B.get? e=none
 fr:h.FunFrames B l
 obj:∃oe ws T oT ts,h.get? e=some oe/\oe.cls=C/\oe.dict=dc/\oe.data=.fields ws/\ws[1]?=some (.ref T)/\B.get? T=none/\T≠e/\h.get? T=some oT/\oT.data=.fields ts/\ts[3]?=some fl
theorem Fly.there (x:Fly B l e C dc fl h):∃oe ws,h.get? e=some oe/\oe.cls=C/\oe.dict=dc/\oe.data=.fields ws:=by
 obtain⟨oe,ws,T,oT,ts,a,b,c,d,_⟩:=x.obj
 simp_all
noncomputable def Arr (B:Heap) (l:List Env) (e:Addr) (C:NB) (dc:Option Addr) (h:Heap):Prop:=
 (B.StaysIn h/\B.get? e=none/\h.FunFrames B l/\∃oe ws,h.get? e=some oe/\oe.cls=C/\oe.dict=dc/\oe.data=.fields ws/\ws[1]?=some .none)\/Fly B l e C dc .none h
theorem Arr.stays (x:Arr B l e C dc h):B.StaysIn h:=x.elim (·.1) (·.stays)
theorem Arr.new (x:Arr B l e C dc h):B.get? e=none:=x.elim (·.2.1) (·.new)
theorem Arr.fr (x:Arr B l e C dc h):h.FunFrames B l:=x.elim (·.2.2.1) (·.fr)
end L2
namespace L2.FE
open PySem PySem.Spec PyProof.Rows
noncomputable def noR:R β->R β
 | .ok b h=>.ok b h
 | _=>.bad
@[simp] theorem Ms (b:β) (h):noR (.ok b h)=.ok b h:=rfl
noncomputable def up (m:En->Hh->R β):En->Hh->R β:=fun env h=>noR (m env h)
end L2.FE
namespace L2
open PySem PySem.Spec PyProof.Rows
noncomputable abbrev unm (A:Om):Om:={ A with handled:=none }
structure FnH (P) (w) (K) (mg) (base) (k) (f) (fd) (ps:List Str) (sp:Sp):Prop where
 len:∀vs H Q E,sp vs H Q E->vs.length=ps.length
 run:∀A outer s H args us vs Q E , fD k (unm A)->vd P w K mg base A outer s H->Tc s fd args (ps.zip us)->Vals vs us->sp vs H Q E →
  codeAny (model P w) A (.call (.ref f) args) (CR CX0 outer P w H s Q E) s
theorem FnH.mono {K:gV} (F:FnH P w K mg base j f fd ps sp) (h:j<=k):FnH P w K mg base k f fd ps sp:=
 ⟨F.len,fun A outer s H args us vs Q E hr=>F.run A outer s H args us vs Q E (hr.mono h)⟩
end L2
namespace L2.FE
open PySem PySem.Spec PyProof.Rows
theorem us0 {P:List NB->Prop} (hl:us.length=0) (h:P []):P us:=by simp_all
theorem us1 {P:List NB->Prop} (hl:us.length=1) (h:∀a,P [a]):P us:=by cases us with | nil=>cases hl | cons a us=>simp_all
theorem us2 {P:List NB->Prop} (hl:us.length=2) (h:∀a b,P [a,b]):P us:=by cases us with | nil=>cases hl | cons a us=>exact us1 (P:=fun us=>P (a::us)) (Sv hl) (h a)
theorem us3 {P:List NB->Prop} (hl:us.length=3) (h:∀a b c,P [a,b,c]):P us:=by cases us with | nil=>cases hl | cons a us=>exact us2 (P:=fun us=>P (a::us)) (Sv hl) (h a)
theorem us4 {P:List NB->Prop} (hl:us.length=4) (h:∀a b c d,P [a,b,c,d]):P us:=by cases us with | nil=>cases hl | cons a us=>exact us3 (P:=fun us=>P (a::us)) (Sv hl) (h a)
theorem us5 {P:List NB->Prop} (hl:us.length=5) (h:∀a b c d e,P [a,b,c,d,e]):P us:=by cases us with | nil=>cases hl | cons a us=>exact us4 (P:=fun us=>P (a::us)) (Sv hl) (h a)
theorem JZ {ps:List Str} (hl:us.length=1) (h:∀a:NB,bindArgs fd ⟨[a],[]⟩=pure (ps.zip [a])):bindArgs fd ⟨us,[]⟩=pure (ps.zip us):=us1 (P:=fun us=>bindArgs fd ⟨us,[]⟩=pure (ps.zip us)) hl h
theorem Af {ps:List Str} (hl:us.length=2) (h:∀a b:NB,bindArgs fd ⟨[a,b],[]⟩=pure (ps.zip [a,b])):bindArgs fd ⟨us,[]⟩=pure (ps.zip us):=us2 (P:=fun us=>bindArgs fd ⟨us,[]⟩=pure (ps.zip us)) hl h
theorem HN {ps:List Str} (hl:us.length=3) (h:∀a b c:NB,bindArgs fd ⟨[a,b,c],[]⟩=pure (ps.zip [a,b,c])):bindArgs fd ⟨us,[]⟩=pure (ps.zip us):=us3 (P:=fun us=>bindArgs fd ⟨us,[]⟩=pure (ps.zip us)) hl h
theorem IJ {ps:List Str} (hl:us.length=4) (h:∀a b c d:NB,bindArgs fd ⟨[a,b,c,d],[]⟩=pure (ps.zip [a,b,c,d])):bindArgs fd ⟨us,[]⟩=pure (ps.zip us):=us4 (P:=fun us=>bindArgs fd ⟨us,[]⟩=pure (ps.zip us)) hl h
theorem JB {ps:List Str} (hl:us.length=5) (h:∀a b c d e:NB,bindArgs fd ⟨[a,b,c,d,e],[]⟩=pure (ps.zip [a,b,c,d,e])):bindArgs fd ⟨us,[]⟩=pure (ps.zip us):=us5 (P:=fun us=>bindArgs fd ⟨us,[]⟩=pure (ps.zip us)) hl h
end L2.FE
namespace L2
open PySem PySem.Spec PyProof.Rows PySem.W
theorem Kp (e:h'.get? a=some o):c6 P w H h' a (FE.AtO a o):=⟨e,e,⟨o,e⟩,fun h1 h2 q k=>k o q⟩
end L2
namespace L2.Srt
open PySem PySem.W PyProof.Rows
section
variable {n:Nat}{key:Nat->Int}
structure Pm (n) (p:Array Nat):Prop where
 size:p.size=n
 perm:p.Perm (ND n).toArray
theorem Pm.lt (h:Pm n p) (hi:i<n):p.getD i 0<n:=by
 have hi':i<p.size:=by rw[h.size];exact hi
 have e:p.getD i 0=p[i]:=by simp[hi']
 rw[e]
 have:=h.perm.mem_iff.mp (N8 hi')
 simp_all
variable (inj:∀i j,i<n->j<n->key i=key j->i=j)
include inj
omit inj in
omit inj in
omit inj in
omit inj in
omit inj in
omit inj in
end
end L2.Srt
namespace L2.Srt
open PySem PySem.W PyProof.Rows PySem.Calls
section
variable {prog:NW}{w:Oo}{A:Om}{E:NB->NF->Prop}{s:NF}{a:Addr}{vs:List NB}{κ:Qz}
noncomputable def dC (h:Heap) (a:Addr) (vs:List NB):Heap:=((h.update a (Qs fun _=>(#[]:Array NB))).push (seqObj "tuple" vs.toArray 0)).push (seqObj "list" #[] 0)
end
section
variable {prog:NW}{w:Oo}{A:Om}{E:NB->NF->Prop}{s:NF}{vs:List NB}
noncomputable def fN (h:Heap) (vs:List NB):Heap:=((h.push (seqObj "list" #[] 0)).update h.objs.size (Qs (·++vs.toArray))).push (seqObj "list" vs.toArray 0)
theorem DY (q:h.get? b=some o):(fN h vs).get? b=some o:=by
 have hsz:((h.push (seqObj "list" #[] 0)).update h.objs.size (Qs (·++vs.toArray))).objs.size=h.objs.size+1:=by simp
 have hlt:=tv q
 unfold fN
 rw[Heap.get?_push_ne _ _ _ (by grind),Heap.get?_update_ne _ _ _ _ (NS hlt),Heap.get?_push_ne _ _ _ (NS hlt)]
 exact q
theorem yL (hn:b≠a) (q:h.get? b=some o):(dC h a vs).get? b=some o:=by
 exact k5 _ (k5 _ (by rw[Heap.get?_update_ne _ _ _ _ hn];exact q))
inductive Prs (h:Heap):List NB->List (Int × Int)->Prop
 | nil:Prs h [] []
 | cons {t u:Tok} {x y:Int} {vs:List NB} {ps:List (Int × Int)}:h.get? a=some o->o.cls=.type "tuple" -> o.data=.seq #[.int x t,.int y u] k->Prs h vs ps->Prs h (.ref a::vs) ((x,y)::ps)
theorem Prs.len (r:Prs h vs ps):vs.length=ps.length:=by
 induction r with
 | nil=>rfl
 | cons _ _ _ _ ih=>simp[ih]
end
end L2.Srt
namespace L2
open PySem PySem.Spec PyProof.Rows L2.Srt
inductive PrV (K) (H):List V->List (Int × Int)->Prop
 | nil:PrV K H [] []
 | cons:SqT K H a [.int x,.int y]->PrV K H xs ps->PrV K H (.ref a::xs) ((x,y)::ps)
section
variable {X:Cx}
theorem PrV.len {K:gV} (r:PrV K H xs ps):xs.length=ps.length:=by
 induction r with
 | nil=>rfl
 | cons _ _ ih=>simp[ih]
theorem rT {xs:List V}{us:List NB} (r:Vals xs us):∀(l:List Nat),(∀i∈l,i<xs.length)->Vals (l.map fun i=>xs.getD i .non) (l.map fun i=>us.getD i Qq)
 | [],_=>.nil
 | i::l,h=>by
  refine .cons ?_ (rT r l fun j hj=>h j (ox _ hj))
  have hi:i<xs.length:=h i NG
  have hu:i<us.length:=by rw[<- r.length];exact hi
  obtain⟨y,e3,ry⟩:=r.get' (NM hu)
  simp_all
end
end L2
namespace L2.FE
open PySem PySem.Spec PyProof.Rows L2.Srt
section
variable {X:Cx}{g:GG}{ε:EE}{K:gV}
theorem yj {α:List Addr}{H:Hp}:∀{ds:List D}{xs:List V},ax K g α H ds xs->∀(i:Nat),i<ds.length->aJ K g α H (ds.getD i .non) (xs.getD i .non)
 | _,_,.nil,i,h=>by simp at h
 | _,_,.cons a b,0,_=>a
 | _,_,.cons a b,i+1,h=>by simpa using yj b i (by simp_all)
theorem wj {α:List Addr}{H:Hp}{ds:List D}{xs:List V} (r:ax K g α H ds xs):∀(l:List Nat),(∀i∈l,i<ds.length)->ax K g α H (l.map fun i=>ds.getD i .non) (l.map fun i=>xs.getD i .non)
 | [],_=>.nil
 | i::l,h=>.cons (yj r i (h i NG)) (wj r l fun j hj=>h j (ox _ hj))
end
end L2.FE
namespace L2.Srt
open PySem PySem.W PyProof.Rows PySem.Calls
section
variable {prog:NW}{w:Oo}{A:Om}{E:NB->NF->Prop}{s:NF}{a:Addr}{vs:List NB}
theorem qq {n:Nat}{P:T1->NF->Prop} (ho:s.heap.get? a=some (seqObj "list" vs.toArray n)) (h1:vs.length<2) (h:P (.done (.ret .none)) { s with heap:=sortedHeap s.heap a vs vs.toArray }) :
  wpAny (model prog w) A (OJ.«list.sort» ⟨[.ref a],[]⟩) P E s:=by
 obtain⟨e1,ho1⟩:∃e1,(s.heap.update a (Qs fun _=>(#[]:Array NB))).get? a=some (seqObj "list" #[] e1):=⟨_,get?_update_seq ho fun _=>#[]⟩
 have hm:(dC s.heap a vs).get? a=some (seqObj "list" #[] e1):=k5 _ (k5 _ ho1)
 rw[list_sort_plain]
 refine k3 (listItems_at ho rfl ?_)
 refine k3 (R_ ho rfl ?_ (by rw[N5,O5];lia) (OU _))
 refine k3 (SR ho1 rfl ?_)
 refine k3 (wpAny_newTuple ?_ (by show vs.length<=_;rw[O5];lia))
 refine k3 (Rz ?_ (OU _))
 refine OR ?_
 have hn2:vs.toArray.size<2:=by rw[N5];exact h1
 rw[if_pos hn2,if_pos hn2]
 refine k3 (td ?_)
 refine k3 (td ?_)
 dsimp only
 have hout:(arrOf (Te general' (vs.toArray.zip vs.toArray) #[] 7 none)).map (·.2)=vs.toArray:=by
  apply Array.toList_inj.mp
  simp[List.map_snd_zip]
 rw[hout]
 refine k3 (SR hm rfl ?_)
 refine k3 (R_ hm rfl ?_ (OU _) (by rw[O5];lia))
 simp only[bne_self_eq_false]
 exact td h
end
end L2.Srt
namespace L2.FE
open PySem PySem.Spec PyProof.Rows
noncomputable def setOf (h:Hh) (n:Nat):Option (List Int):=match h[n]? with
 | some (.set ns)=>some ns
 | _=>none
section
variable {X:Cx}{g:GG}{ε:EE}{K:gV}
theorem aU.set (r:aU K g α H h) (e:setOf h n=some ns) (hp:α[n]?=some p):H p=some (.set (fun k=>ns.any (· == k)) ns.length):=by
 unfold setOf at e
 cases eo:h[n]? with
 | none=>simp_all
 | some o=>
  rw[eo] at e
  cases o with
  | set k=>cases e;exact r.here n p _ hp eo
  | _=>cases e
end
noncomputable def Fw (h:Hh) (n:Nat):Option (List (List Key × D)):=match h[n]? with
 | some (.dit kvs)=>some kvs
 | _=>none
noncomputable abbrev PDT (K:gV) (g:GG) (α:List Addr) (H:Hp):List (List Key × D)->List (List Key × V)->Prop:=Paired (fun(a:List Key × D) (b:List Key × V)=>a.1=b.1/\aJ K g α H a.2 b.2)
section
variable {K:gV}{g:GG}{α:List Addr}{H:Hp}{h:Hh}
theorem aU.dit (r:aU K g α H h) (e:Fw h n=some kvs) (hp:α[n]?=some p):∃kws,H p=some (.dT kws)/\PDT K g α H kvs kws:=by
 unfold Fw at e
 cases eo:h[n]? with
 | none=>simp_all
 | some o=>
  rw[eo] at e
  cases o with
  | dit k=>cases e;exact r.here n p _ hp eo
  | _=>cases e
theorem PDT.ext (e:Ext K α H α' H') (r:PDT K g α H kvs kws):PDT K g α' H' kvs kws:=Paired.JE e.toEx0 r
theorem aS.dit (w:aS K g α H Q (.ref h.length) (h++[.dit kvs])) (r:aU K g α H h) (rs:PDT K g α H kvs kws) (hp:H p=none):Q (.ref p) (upd H p (.dT kws)):=by
 have x:=Ext.push (K:=K) (α:=α) (o:=.dT kws) hp
 exact w _ _ _ x (r.push hp ⟨_,bH,rs.ext x⟩) (.ref (by rw[<- r.len];simp))
end
end L2.FE
namespace L2
open PySem PySem.Spec PyProof.Rows
noncomputable abbrev Hr (J:It) (ix:List Nat) (σ:St) (wi2:TI) (te:TE) (acc:Addr) (H1:Hp) (Q:VK):Prop:=
 ∃W:Nat->Nat->List V->Hp->Prop,(∃m,W 0 m [] (upd H1 acc (.lst [])))/\∀i m ys H,W i m ys H →
  (J.stop i H/\Q (.ref acc) H)\/(J.go i H/\∀σ0 x H',iT 2 ix σ σ0->J.yld i H x H'->wi2 (σ0.set 0 (some x)) H' fun J2 H2=>
   ∃U:Nat->Nat->List V->Hp->Prop,(∃m2,U 0 m2 ys H2)/\∀j m2 zs H,U j m2 zs H->(J2.stop j H/\∃m',m'<m/\W (i+1) m' zs H) ∨
    (J2.go j H/\∀y H',J2.yld j H y H'->te ((σ0.set 0 (some x)).set 1 (some y)) H' fun v H3=>∃ks,H3 acc=some (.lst ks)/\ks.length<sizeLine/\∃m',m'<m2/\U (j+1) m' (ks++[v]) (upd H3 acc (.lst (ks++[v])))))
noncomputable def xo (wi:TI) (ix:List Nat) (wi2:TI) (te:TE):TE:=fun σ H Q=>wi σ H fun J H1=>∀acc,H1 acc=none->Hr J ix σ wi2 te acc H1 Q
section
variable {prog:NW}{w:Oo}{A:Om}{R:Result->NF->Prop}{s:NF}{elt tg iter tg2 iter2:Expr}{scope:Ru}{pos:Pos}{it acc:NB}{env:Env}
noncomputable abbrev e2 (elt tg iter tg2 iter2:Expr) (scope:Ru) (pos:Pos):Expr:=.ListComp elt [⟨tg,iter,[],0⟩,⟨tg2,iter2,[],0⟩] scope pos
theorem BS:compTurn (e2 elt tg iter tg2 iter2 scope pos) 0 it acc env=(standAt iter.pos >>= fun _=>pyNext it >>= fun r=>match r with
  | none=>pure (.done .next)
  | some v=>letOwnedTupleGo tg it v >>= fun _=>assign tg env v >>= fun _=>
   eval iter2 env >>= fun x=>standAt iter2.pos >>= fun _=>foldedSetIterable iter2 env x >>= fun x=>holding [x] (pyIter x) >>= fun i2=>runOwn (.compStart (e2 elt tg iter tg2 iter2 scope pos) 1 i2 acc env) env >>= fun _=>
    again (.compLoop (e2 elt tg iter tg2 iter2 scope pos) 0 it acc env)):=by rfl
theorem Fm:compTurn (e2 elt tg iter tg2 iter2 scope pos) 1 it acc env=(standAt iter2.pos >>= fun _=>pyNext it >>= fun r=>match r with
  | none=>pure (.done .next)
  | some v=>letOwnedTupleGo tg2 it v >>= fun _=>assign tg2 env v >>= fun _=>
   (eval elt env >>= fun x=>call (.builtin "list.append") [acc,x] >>= fun _=>pure ()) >>= fun _=>
    again (.compLoop (e2 elt tg iter tg2 iter2 scope pos) 1 it acc env)):=by rfl
theorem CF (I:Nat->NF->Prop)
  (turn:∀n s,I n s->wpAny (model prog w) A (pyNext it) (fun r s₁=>match r with
   | none=>R (.ok .next) s₁
   | some v=>wpAny (model prog w) A (letOwnedTupleGo tg2 it v) (fun _ s₁=>wpAny (model prog w) A (assign tg2 env v) (fun _ s₂=>
     wpAny (model prog w) A (eval elt env) (fun x s₄=>wpAny (model prog w) A (call (.builtin "list.append") [acc,x]) (fun _ s₅=>∃m,m<n/\I m s₅) (fun _ _=>False) s₄) (fun _ _=>False) s₂) (fun _ _=>False) s₁) (fun _ _=>False) s₁) (fun _ _=>False) s)
  (n) (h:I n s):codeAny (model prog w) A (.compLoop (e2 elt tg iter tg2 iter2 scope pos) 1 it acc env) R s:=by
 refine Tg rfl I (fun n s hI=>?_) n h
 refine Ts ?_
 rw[Fm]
 refine R7 ?_
 refine k3 (Qe (k3 (thn (turn n s hI) fun r s₁ h₁=>?_)))
 cases r with
 | none=>exact td h₁
 | some v=>exact k3 (thn h₁ fun _ s₂ h₂=>k3 (thn h₂ fun _ s₃ h₃=>k3 (k3 (thn h₃ fun x s₄ h₄=>k3 (thn h₄ fun _ s₅ h₅=>td (td ⟨rfl,h₅⟩))))))
theorem Ac (I:Nat->NF->Prop) (hf:∀x,foldedSetIterable iter2 env x=pure x)
  (turn:∀n s,I n s->wpAny (model prog w) A (pyNext it) (fun r s₁=>match r with
   | none=>R (.ok .next) s₁
   | some v=>wpAny (model prog w) A (letOwnedTupleGo tg it v) (fun _ s₁=>wpAny (model prog w) A (assign tg env v) (fun _ s₂=>
     wpAny (model prog w) A (eval iter2 env) (fun x s₃=>wpAny (model prog w) A (pyIter x) (fun i2 s₄=>
      codeAny (model prog w) A (.compStart (e2 elt tg iter tg2 iter2 scope pos) 1 i2 acc env) (fun r s'=>match r with
       | .ok _=>∃m,m<n/\I m s'
       | .error _=>False) s₄) (fun _ _=>False) s₃) (fun _ _=>False) s₂) (fun _ _=>False) s₁) (fun _ _=>False) s₁) (fun _ _=>False) s)
  (n) (h:I n s):codeAny (model prog w) A (.compLoop (e2 elt tg iter tg2 iter2 scope pos) 0 it acc env) R s:=by
 refine Tg rfl I (fun n s hI=>?_) n h
 refine Ts ?_
 rw[BS]
 refine R7 ?_
 refine k3 (Qe (k3 (thn (turn n s hI) fun r s₁ h₁=>?_)))
 cases r with
 | none=>exact td h₁
 | some v=>
  refine k3 (thn h₁ fun _ s₂ h₂=>k3 (thn h₂ fun _ s₃ h₃=>k3 (thn h₃ fun x s₄ h₄=>k3 (Qe (k3 (R9 (hf x) (k3 (OR (thn h₄ fun i2 s₅ h₅=>?_)))))))))
  refine k3 (wpAny_runOwn (Pg h₅ fun r s' hr=>?_))
  cases r with
  | ok f=>exact td ⟨rfl,hr⟩
  | error e=>simp_all
theorem Ck (h0:codeAny (model prog w) A (.compLoop (e2 elt tg iter tg2 iter2 scope pos) 1 it acc env) R s)
  (h:wpAny (model prog w) A (pyIter it) (fun i' s'=>codeAny (model prog w) A (.compLoop (e2 elt tg iter tg2 iter2 scope pos) 1 i' acc env) R s') (fun _ _=>False) s) :
  codeAny (model prog w) A (.compStart (e2 elt tg iter tg2 iter2 scope pos) 1 it acc env) R s:=by
 refine QZ ?_
 refine wpAny_notedAt ?_
 refine R7 ?_
 refine k3 (Qn ?_)
 split
 ·exact td ⟨rfl,h0⟩
 ·exact k3 (Td (k3 (Qe (k3 (thn h fun i' s' h'=>td ⟨rfl,h'⟩)))))
end
theorem Ad {X:Cx}{use:Option (NB->Sem Unit)}{Q2:NB->NF->Prop}{pins:List (Addr × Obj)}{s:NF}{σ:St}{H:Hp}{Q:VK}{elt iter tg iter2 tg2:Expr}{tn':List Str}{scope osc:Ru}{pos:Pos}{wi wi2:TI}{te:TE} (ix:List Nat) (N':List Str)
  (hxe:X.xe=fun _ _=>False) (hc:X.calm=true) (ho:X.env.scope=osc) (hN:N'=tn'++ix.map fun i=>(X.N[i]?).getD ("" : Str)) (hnd:N'.Nodup)
  (hall:(∀y∈scope.names,y.2=.free->osc.names.lookup y.1=some .cell)/\(∀y∈scope.names,y.2≠.cell)/\scope.kind=.function/\(∀y∈scope.names,y.2=.local->scope.names.lookup y.1=some .local)/\(∀y∈N'.drop tn'.length,scope.names.lookup y=some .free))
  (hi:PI X tg iter wi) (hg:∀cl C aE aG fp,PG (bO X scope cl C aE aG fp N') tg (iZ 0)) (hi2:∀cl C aE aG fp,PI (bO X scope cl C aE aG fp N') tg2 iter2 wi2) (hg2:∀cl C aE aG fp,PG (bO X scope cl C aE aG fp N') tg2 (iZ 1))
  (he:∀cl C aE aG fp,PE (bO X scope cl C aE aG fp N') elt te)
  (hs:∀x,foldedSetIterable iter X.env x=pure x) (hs2:∀env x,foldedSetIterable iter2 env x=pure x) (h2n:tn'.length=2) (I:Inv X pins σ H s) (h:xo wi ix wi2 te σ H Q)
  (hfin:∀(acc C:Addr) (H5:Hp) (s5:NF) (o:Obj),Inv X (pins++[(C,o)]) σ H5 s5->(∀x c,X.env.cells.lookup x=some c->c≠C)->X.aE.heap.objs.size<=C->(∀p∈X.pn++pins,p.1≠C)->(∃m,∀h':Heap,h'.get? C=some o->h'.Ns C m)->Q (.ref acc) H5->compPost (model X.prog X.w) X.A X.xe use Q2 (.ref acc) C (.ok .next) s5) :
  wpAny (model X.prog X.w) X.A (comprehension (.ListComp elt [⟨tg,iter,[],0⟩,⟨tg2,iter2,[],0⟩] scope pos) scope X.env (firstIterPos [⟨tg,iter,[],0⟩,⟨tg2,iter2,[],0⟩] pos) (newList []) false (eval iter X.env) use) Q2 X.xe s:=by
 obtain⟨hfr,hcell,hkind,hnames,hcap⟩:=hall
 subst ho
 have outc:=fun y hy q=>hfr y hy q
 obtain⟨cl,hclos,hcl1,hcl2⟩:=j7 fun y hy q=>I.ok.has y.1 (.inl (outc y hy q))
 refine wpAny_comprehension_free rfl hs hclos hkind hnames (thn (hi pins s σ H _ I h) fun v s1 h1=>thn h1 fun itv s2 h2=>?_)
 obtain⟨it,fp,tn,J,H2,e,I2,T,st2,f2,rest⟩:=h2
 subst e
 have hf2:=I2.hok.fresh (NC _)
 obtain⟨W,⟨m0,w0⟩,turn⟩:=rest s2.heap.objs.size hf2
 refine Oq ?_
 have I3:=I2.D7 (t':=s2.toks) .nil (OU _)
 have keep3:∀b o,s2.heap.get? b=some o->(s2.heap.push { cls:=.type "list", dict:=none,data:=.seq ([]:List NB).toArray }).get? b=some o:=fun b o q=>k5 _ q
 have fp3:=T.obj _ _ st2
 have st3:=T.keep _ _ _ st2 fun b _ o q=>keep3 b o q
 have fpn:∀b∈fp,(upd H2 s2.heap.objs.size (HO.lst [])) b=none:=fun b hb=>by
  obtain⟨o,q,_⟩:=fp3 b hb
  rw[aN (NS (tv q))]
  exact(f2 b hb).1
 revert I3 keep3 st3 fpn w0
 generalize hS3:({ s2 with heap:=s2.heap.push { cls:=.type "list", dict:=none,data:=.seq ([]:List NB).toArray } }:NF)=s3
 generalize hH3:upd H2 s2.heap.objs.size (HO.lst [])=H3
 intro w0 I3 keep3 st3 fpn
 generalize s2.heap.objs.size=acc at *
 have e3:s2.heap.push { cls:=.type "list", dict:=none,data:=.seq ([]:List NB).toArray }=s3.heap:=by rw[<- hS3]
 have keep3':∀b o,s2.heap.get? b=some o->s3.heap.get? b=some o:=fun b o q=>by rw[<- e3];exact keep3 b o q
 have st3':tn 0 s3.heap:=by rw[<- e3];exact st3
 refine Rx hcell (by intro y hy;simp at hy) (fun h₁ hns₁ hsb₁=>?_) hkind
 have hC:s3.heap.objs.size=s3.heap.objs.size:=rfl
 have keep4:∀b o,s3.heap.get? b=some o->h₁.get? b=some o:=fun b o q=>hsb₁.extBut b o (NS (tv q)) (k5 _ q)
 have fpC:∀b∈fp,b≠s3.heap.objs.size:=fun b hb=>by
  obtain⟨o,q,_⟩:=fp3 b hb
  exact NS (tv (keep3' b o q))
 -- the block's context
 generalize hX':bO X scope cl s3.heap.objs.size s3 H3 fp N'=X'
 have hXp:X'.prog=X.prog:=by rw[<- hX'];rfl
 have hXw:X'.w=X.w:=by rw[<- hX'];rfl
 have hXK:X'.K=X.K:=by rw[<- hX'];rfl
 have hXA:X'.A=X.A:=by rw[<- hX'];rfl
 have hXe:X'.env=compEnvC scope cl s3.heap.objs.size X.env:=by rw[<- hX'];rfl
 have hXc:X'.calm=true:=by rw[<- hX'];exact hc
 have hXx:X'.xe=fun _ _=>False:=by rw[<- hX'];exact hxe
 have hXf:X'.fs=frs X.stack:=by rw[<- hX'];rfl
 have hXex:X'.ex=fp:=by rw[<- hX'];rfl
 have hXN:X'.N=N':=by rw[<- hX'];rfl
 have hXs:X'.aE=s3:=by rw[<- hX'];rfl
 have hXH:X'.aG=H3:=by rw[<- hX'];rfl
 have hXpn:X'.pn=[]:=by rw[<- hX'];rfl
 have okX:X'.Ok:=by
  rw[<- hX']
  refine⟨I3.ok.mod,hkind,I3.ok.glob,I3.ok.blt,NC _,fun a b c p q=>I3.ok.inj a b c (hcl1 a c p) (hcl1 b c q),fun y hy=>?_,fun _ _ z=>(by cases z),I3.ok.hd,I3.ok.frames,.inl rfl,fun b hb=>⟨fpC b hb,fun y c p=>(f2 b hb).2.2.2.2.1 y c (hcl1 y c p)⟩,
   I3.bs,N4 I3.ok.bsz I3.sz,fun b o p hb=>?_,fun b hb z=>?_,I3.stack,I3.nJ⟩
  ·have hy':(relabel scope X.env).names.lookup y=some .cell\/(relabel scope X.env).names.lookup y=some .free:=hy
   have free:scope.names.lookup y=some .free->∃c,cl.lookup y=some c:=fun q=>hcl2 y (lookup_mem q)
   rcases hy' with q | q
   ·rcases fB q with z | ⟨z,_⟩
    ·exact absurd rfl (hcell _ (lookup_mem z))
    ·exact free z
   ·rcases fB q with z | ⟨_,z⟩
    ·exact free z
    ·cases z
  ·rcases(f2 b hb).2.2.2.1 with z | z
   ·exact I3.ok.zS b o p z
   ·exact absurd (N7 (tv p) (N4 I3.ok.bsz z)) (OH _)
  ·rcases NQ.mp (I3.km b z) with q | q
   ·exact(f2 b hb).2.1 q
   ·exact(f2 b hb).2.2.1 q
 have I4:∀tk,Inv X' [] (qC tn'.length ix σ) H3 { s3 with heap:=h₁,toks:=tk }:=fun tk=>by
  have hloc:=I3.loc
  refine⟨okX,by rw[hXs],I3.bare,?_,⟨fun y=>([]:List (Str × NB)).reverse.lookup y,by rw[hXe];exact hns₁,fun i y v e1 e2 e3=>?_⟩,fun y c p=>?_,?_,fun y c p=>?_,fun p hp=>?_,?_,?_⟩
  ·rw[hXf,hXex,hXH,hXs];exact Un.kept keep4
  ·rw[hXN,hN] at e1
   by_cases hit':i<tn'.length
   ·exfalso
    unfold qC at e2
    rw[NN (by simpa using hit'),Qg,if_pos hit'] at e2
    cases e2
   ·have e10:N'[i]?=some y:=by rw[hN];exact e1
    obtain⟨j,rfl⟩:∃j,i=tn'.length+j:=⟨i - tn'.length,by lia⟩
    have e1':(ix.map fun i=>(X.N[i]?).getD ("" : Str))[j]?=some y:=by
     rw[NR (by lia)] at e1
     rw[show tn'.length+j - tn'.length=j by lia] at e1
     exact e1
    have e2':(ix.map fun i=>(σ[i]?).join)[j]?=some (some v):=by
     unfold qC at e2
     rw[NR (by simp)] at e2
     simpa using e2
    rw[NU] at e1' e2'
    cases hj:ix[j]? with
    | none=>rw[hj] at e1';cases e1'
    | some i0=>
     rw[hj] at e1' e2'
     have e1'':(X.N[i0]?).getD ("" : Str)=y:=by simpa using e1'
     have e2'':(σ[i0]?).join=some v:=by simpa using e2'
     have hsv:σ[i0]?=some (some v):=by
      cases q:σ[i0]? with
      | none=>rw[q] at e2'';cases e2''
      | some z=>rw[q] at e2'';have:z=some v:=by simpa using e2''
                rw[this]
     have hlt:i0<X.N.length:=by
      have:=(Og.mp hsv).1
      rw[I3.len] at this;exact this
     have hNy:X.N[i0]?=some y:=by
      rw[NM hlt] at e1'' ⊢
      simpa using e1''
     have hyt:y∈N'.drop tn'.length:=by
      refine Ob (i:=j) ?_
      rw[Qx];exact e10
     have hyf:=hcap y hyt
     have hyc:=outc (y,.free) (lookup_mem hyf) rfl
     obtain⟨m,hn,hl⟩:=hloc
     obtain⟨u,r,l⟩:=hl i0 y v hNy hsv (.inr (.inl hyc))
     refine⟨u,r,?_⟩
     rcases l with⟨k1,_⟩ | ⟨_,c,p,z⟩
     ·have hyc':X.env.kindOf y=some .cell:=hyc
      rw[k1] at hyc';cases hyc'
     ·obtain⟨c',p'⟩:=hcl2 y (lookup_mem hyf)
      have pc:c'=c:=by
       have:=hcl1 y c' p'
       rw[p] at this;cases this;rfl
      subst pc
      refine .inr ⟨.inl ?_,c',by rw[hXe];exact p',?_⟩
      ·rw[hXe];exact eH I3.ok.kind hyf hyc
      ·obtain⟨o,q1,q2⟩:=z
       exact⟨o,keep4 c' o q1,q2⟩
  ·rw[hXe] at p
   obtain⟨v,o,q1,q2⟩:=I3.cell y c (hcl1 y c p)
   exact⟨v,o,keep4 c o q1,q2⟩
  ·rw[hXe];exact I3.hok.fresh (NC _)
  ·rw[hXe] at p;exact I3.gm y c (hcl1 y c p)
  ·rw[hXpn] at hp;cases hp
  ·rw[hXp,hXw];exact I3.hok.kept keep4
  ·rw[hXN,hN];simp[qC]
 -- the loop
 have stat:∀{H':Hp},(∀b∈fp,H' b=none)->∀b∈fp,m7 X' [] H' b:=fun hn b hb=>by
  refine⟨hn b hb,by rw[hXe];exact fpC b hb,?_,.inl (by rw[hXex];exact hb),fun y c p=>?_,fun p hp=>by rw[hXpn] at hp;cases hp⟩
  ·rw[hXf];intro z
   rcases NQ.mp (I3.km b z) with q | q
   ·exact(f2 b hb).2.1 q
   ·exact(f2 b hb).2.2.1 q
  ·rw[hXe] at p;exact(f2 b hb).2.2.2.2.1 y c (hcl1 y c p)
 have fin:∀{H5:Hp} {s5:NF} {σ5:St},Inv X' [] σ5 H5 s5->Q (.ref acc) H5->compPost (model X.prog X.w) X.A X.xe use Q2 (.ref acc) s3.heap.objs.size (.ok .next) s5:=fun{H5 s5 σ5} I5 q=>by
  obtain⟨m,hn,_⟩:=I5.loc
  rw[hXe] at hn
  have hn':s5.heap.Ns s3.heap.objs.size m:=hn
  obtain⟨oC,esC,epC,hC1,hC2,hC3⟩:=hn'
  have u5:=I5.base
  rw[hXf,hXex,hXH,hXs] at u5
  have fr:H5 s3.heap.objs.size=none:=by have:=I5.free;rw[hXe] at this;exact this
  have hok5:=I5.hok
  rw[hXp,hXw] at hok5
  have hos:s5.os=s3.os:=by have:=I5.os;rw[hXs] at this;exact this
  have IX:Inv X pins σ H5 s5:=I3.vS (s':=s5) (ch:=fp) hos u5 hok5 I5.bare (fun b hb=>by
   obtain⟨g0,g1,g2,g3,g4,g5⟩:=f2 b hb
   exact⟨g3,g1,g4,g5⟩)
  have cC:∀x c,X.env.cells.lookup x=some c->c≠s3.heap.objs.size:=fun x c z e=>by
   obtain⟨v,q⟩:=I3.cell x c z
   exact absurd q.lt (by rw[e];exact OH _)
  have pC:∀p∈X.pn++pins,p.1≠s3.heap.objs.size:=fun p hp e=>by
   have:=tv (I3.pin p hp).1
   rw[e] at this
   exact OH _ this
  refine hfin acc s3.heap.objs.size H5 s5 oC (IX.kX fun p hp=>?_) cC I3.sz pC ⟨m,fun h' z=>⟨oC,esC,epC,z,hC2,hC3⟩⟩ q
  rcases Oe.mp hp with z | z
  ·exact IX.pin p (NI _ z)
  ·have e:=NY.mp z
   subst e
   refine⟨hC1,fr,Qd I3.lt,I3.Hj (NC _),fun v e=>?_⟩
   have e':oC.data=.cell v:=e
   rw[hC2] at e';cases e'
 have IsC:∀{σ0:St} {i:Nat} {v:Option V},iT 2 ix σ σ0->i<2->iT 2 ix σ (σ0.set i v):=fun{σ0 i v} ⟨ts,hl,e⟩ hi=>⟨ts.set i v,by rw[List.length_set];exact hl,by rw[e,List.set_append_left _ _ (by rw[hl];exact hi)]⟩
 have loop:∀tk,codeAny (model X.prog X.w) X.A (.compLoop (.ListComp elt [⟨tg,iter,[],0⟩,⟨tg2,iter2,[],0⟩] scope pos) 0 (.ref it) (.ref acc) (compEnvC scope cl s3.heap.objs.size X.env))
   (compPost (model X.prog X.w) X.A X.xe use Q2 (.ref acc) s3.heap.objs.size) { s3 with heap:=h₁,toks:=tk }:=fun tk=>by
  refine Ac (fun n s'=>∃i ys σ' H',Inv X' [] σ' H' s'/\iT 2 ix σ σ'/\tn i s'.heap/\(∀b∈fp,H' b=none)/\W i n ys H') (hs2 _) (fun n s5 h5=>?_) m0
   ⟨0,[],qC tn'.length ix σ,H3,I4 tk,⟨_,by rw[Rp];exact h2n,rfl⟩,T.keep _ _ _ st3' fun b _ o q=>keep4 b o q,fpn,w0⟩
  obtain⟨i,ys,σ5,H5,I5,hσ,st5,fr5,w5⟩:=h5
  rcases turn i n ys H5 w5 with⟨stop,q⟩ | ⟨go,step⟩
  ·have d:=T.done X' hXp hXw hXK hXc i [] s5 σ5 H5 (fun _ _=>False) I5 (stat fr5) st5 stop
   rw[hXA] at d
   refine thn d fun r s6 ⟨hr,I6⟩=>?_
   subst hr
   exact fin I6 q
  ·have d:=T.item X' hXp hXw hXK hXc i [] s5 σ5 H5 (fun _ _=>False) I5 (stat fr5) st5 go
   rw[hXA] at d
   refine thn d fun r s6 ⟨u,hr,h6⟩=>?_
   subst hr
   refine thn h6 fun _ s7 ⟨z,H7,I7,r7,y7,st7,fr7⟩=>?_
   have I7':=I7.pinned (stat fr7) (T.obj _ _ st7)
   have again:∀{H9:Hp} {s9:NF} {ys9:List V} {σ9:St},Inv X' ([]++i8 fp s7.heap) σ9 H9 s9->iT 2 ix σ σ9->(∃m',m'<n/\W (i+1) m' ys9 H9)->∃m',m'<n/\∃i ys σ' H',Inv X' [] σ' H' s9/\iT 2 ix σ σ'/\tn i s9.heap/\(∀b∈fp,H' b=none)/\W i m' ys H':=fun{H9 s9 ys9 σ9} I9 c9 ⟨m',hm,w9⟩=>by
    refine⟨m',hm,i+1,ys9,_,H9,I9.gY,c9,T.keep _ _ _ st7 fun b hb o e=>(I9.pin (b,o) (NI _ (NI _ (dO hb e)))).1,fun b hb=>?_,w9⟩
    obtain⟨o,e,_⟩:=T.obj _ _ st7 b hb
    exact(I9.pin (b,o) (NI _ (NI _ (dO hb e)))).2.1
   have he':=he cl s3.heap.objs.size s3 H3 fp
   have hg':=hg cl s3.heap.objs.size s3 H3 fp
   have hg2':=hg2 cl s3.heap.objs.size s3 H3 fp
   have hi2':=hi2 cl s3.heap.objs.size s3 H3 fp
   rw[hX'] at he' hg' hg2' hi2'
   rw[<- hXe]
   have a0:=hg' _ s7 σ5 H7 z u (fun σ2 Hn=>σ2=σ5.set 0 (some z)/\Hn=H7) I7' r7 ⟨rfl,rfl⟩
   rw[hXp,hXw,hXA,hXx] at a0
   refine thn a0 fun _ s8 ⟨σ8,H8,I8,e8,e8'⟩=>?_
   subst e8 e8'
   have a1:=hi2' _ s8 _ H8 _ I8 (step σ5 z H8 hσ y7)
   rw[hXp,hXw,hXA,hXx] at a1
   refine thn a1 fun v2 s9 h9=>thn h9 fun itv2 s10 h10=>?_
   obtain⟨it2,fp2,tn2,J2,H10,e10,I10,T2,st10,f10,V,⟨m2,v0⟩,turn2⟩:=h10
   subst e10
   rw[hXp,hXw,hXK] at T2
   have stat2:∀{H':Hp},(∀b∈fp2,H' b=none)->∀b∈fp2,m7 X' ([]++i8 fp s7.heap) H' b:=fun hn b hb=>⟨hn b hb,(f10 b hb).2⟩
   have inner:codeAny (model X.prog X.w) X.A (.compLoop (.ListComp elt [⟨tg,iter,[],0⟩,⟨tg2,iter2,[],0⟩] scope pos) 1 (.ref it2) (.ref acc) X'.env) (fun r s'=>match r with
     | .ok _=>∃m',m'<n/\∃i ys σ' H',Inv X' [] σ' H' s'/\iT 2 ix σ σ'/\tn i s'.heap/\(∀b∈fp,H' b=none)/\W i m' ys H'
     | .error _=>False) s10:=by
    refine CF (fun m s'=>∃j zs uo H',Inv X' ([]++i8 fp s7.heap) ((σ5.set 0 (some z)).set 1 uo) H' s'/\tn2 j s'.heap/\(∀b∈fp2,H' b=none)/\V j m zs H') (fun m s11 h11=>?_) m2 ⟨0,ys,((σ5.set 0 (some z))[1]?).join,H10,?_,st10,fun b hb=>(f10 b hb).1,v0⟩
    ·obtain⟨j,zs,uo,H11,I11,st11,fr11,v11⟩:=h11
     rcases turn2 j m zs H11 v11 with⟨stop2,q2⟩ | ⟨go2,step2⟩
     ·have d:=T2.done X' hXp hXw hXK hXc j _ s11 _ H11 (fun _ _=>False) I11 (stat2 fr11) st11 stop2
      rw[hXA] at d
      refine thn d fun r s12 ⟨hr,I12⟩=>?_
      subst hr
      exact again I12 (IsC (IsC hσ (by decide)) (by decide)) q2
     ·have d:=T2.item X' hXp hXw hXK hXc j _ s11 _ H11 (fun _ _=>False) I11 (stat2 fr11) st11 go2
      rw[hXA] at d
      refine thn d fun r s12 ⟨u2,hr,h12⟩=>?_
      subst hr
      refine thn h12 fun _ s13 ⟨z2,H13,I13,r13,y13,st13,fr13⟩=>?_
      have I13':=I13.pinned (stat2 fr13) (T2.obj _ _ st13)
      have b0:=hg2' _ s13 _ H13 z2 u2 (fun σ2 Hn=>σ2=((σ5.set 0 (some z)).set 1 uo).set 1 (some z2)/\Hn=H13) I13' r13 ⟨rfl,rfl⟩
      rw[hXp,hXw,hXA,hXx] at b0
      refine thn b0 fun _ s14 ⟨σ14,H14,I14,e14,e14'⟩=>?_
      subst e14 e14'
      rw[List.set_set] at I14
      have b1:=he' _ s14 _ H14 _ I14 (step2 z2 H14 y13)
      rw[hXp,hXw,hXA,hXx] at b1
      refine thn b1 fun yv s15 ⟨y,H15,I15,r15,ks,q1,q2,q3⟩=>?_
      have b2:=jI (X:=X') _ s15 _ H15 (.ref acc) [y] (.ref acc) [yv] (fun _ Hq=>∃m',m'<m/\V (j+1) m' (ks++[y]) Hq) I15 rfl (.cons r15 .nil) ⟨acc,ks,y,rfl,rfl,q1,q2,q3⟩
      rw[hXp,hXw,hXA,hXx] at b2
      refine thn b2 fun _ s16 ⟨_,H16,I16,_,m',hm',w16⟩=>?_
      refine⟨m',hm',j+1,ks++[y],some z2,H16,I16.gY,T2.keep _ _ _ st13 fun b hb o e=>(I16.pin (b,o) (NI _ (NI _ (dO hb e)))).1,fun b hb=>?_,w16⟩
      obtain⟨o,e,_⟩:=T2.obj _ _ st13 b hb
      exact(I16.pin (b,o) (NI _ (NI _ (dO hb e)))).2.1
    ·have:(σ5.set 0 (some z)).set 1 ((σ5.set 0 (some z))[1]?).join=σ5.set 0 (some z):=by
      obtain⟨ts,hl,e⟩:=hσ
      match ts,hl with
      | [p,q],_=>rw[e];rfl
     rw[this];exact I10
   refine Ck inner ?_
   exact T2.self _ 0 _ _ _ st10 inner
 refine codeAny_compStart_list (loop _) ?_
 exact T.self _ 0 _ _ _ (T.keep _ _ _ st3' fun b _ o q=>keep4 b o q) (loop _)
section
variable {X:Cx}{elt iter tg iter2 tg2:Expr}{scope osc:Ru}{pos:Pos}{wi wi2:TI}{te:TE}
theorem vy {py spos:Pos} (ix) (tn' N') (h2n:tn'.length=2)
  (hxe:X.xe=fun _ _=>False) (hc:X.calm=true) (ho:X.env.scope=osc) (hN:N'=tn'++ix.map fun i=>(X.N[i]?).getD ("" : Str)) (hnd:N'.Nodup)
  (hall:(∀y∈scope.names,y.2=.free->osc.names.lookup y.1=some .cell)/\(∀y∈scope.names,y.2≠.cell)/\scope.kind=.function/\(∀y∈scope.names,y.2=.local->scope.names.lookup y.1=some .local)/\(∀y∈N'.drop tn'.length,scope.names.lookup y=some .free))
  (hi:PI X tg iter wi) (hg:∀cl C aE aG fp,PG (bO X scope cl C aE aG fp N') tg (iZ 0)) (hi2:∀cl C aE aG fp,PI (bO X scope cl C aE aG fp N') tg2 iter2 wi2) (hg2:∀cl C aE aG fp,PG (bO X scope cl C aE aG fp N') tg2 (iZ 1))
  (he:∀cl C aE aG fp,PE (bO X scope cl C aE aG fp N') elt te)
  (hNN:X.N.Nodup) (hy:X.N[i]?=some y) (hl:X.env.scope.names.lookup y=some .local)
  (hsw:swapsWith (.ListComp elt [⟨tg,iter,[],0⟩,⟨tg2,iter2,[],0⟩] scope pos) (some (.Name y py)) spos.line X.env=pure true:=by rfl)
  (hs:∀x,foldedSetIterable iter X.env x=pure x:=by intro _;rfl) (hs2:∀env x,foldedSetIterable iter2 env x=pure x:=by intro _ _;rfl) :
  PS X (.Assign [.Name y py] (.ListComp elt [⟨tg,iter,[],0⟩,⟨tg2,iter2,[],0⟩] scope pos) spos) (E_ (xo wi ix wi2 te) (iZ i)):=by
 intro pins s σ H D I h
 rw[exec_Assign_Name_used _ _ _ _ hsw]
 refine k3 (Qe ?_)
 refine k3 ?_
 refine k3 (Ad ix N' hxe hc ho hN hnd hall hi hg hi2 hg2 he hs hs2 h2n I h fun acc C H5 s5 o I5 cC hC pC hm q=>?_)
 obtain⟨m,hm⟩:=hm
 refine RV (jz (v:=.ref acc) I5 hNN hy (.inl hl) rfl (fun s6 I6=>?_) (.inr hl))
 refine⟨m,hm _ (I6.pin (C,o) (NI _ (NI _ (NY.mpr rfl)))).1,fun h' hs'=>?_⟩
 exact td (td ⟨_,H5,I6.HV cC hC pC hs',q⟩)
end
end L2
namespace L2.FE
open PySem PySem.Spec PyProof.Rows
noncomputable def i4 (ix:List Nat) (env:En) (a b:Option D):En:=a::b::ix.map fun i=>(env[i]?).join
noncomputable def AS (n0:Nat) (y:D) (h:Hh):R Unit:=match aH h n0 with
 | some ds=>if ds.length<1000000 then .ok () (h.set n0 (.lst (ds++[y]))) else .bad
 | none=>.bad
noncomputable def vD (n0:Nat) (rd:Rdr) (te:ME) (ff:D->En):Nat->Nat->Hh->R Unit
 | k,j,h=>match rd h j with
  | none=>.bad
  | some none=>.ok () h
  | some (some e)=>match k with
   | 0=>.bad
   | k+1=>(te (ff e) h).bind fun y h2=>(AS n0 y h2).bind fun _ h3=>vD n0 rd te ff k (j+1) h3
noncomputable def sx (n0:Nat) (rd:Rdr) (mi2:MI) (te:ME) (ff:Option D->Option D->En):Nat->Nat->Hh->R Unit
 | k,i,h=>match rd h i with
  | none=>.bad
  | some none=>.ok () h
  | some (some d)=>match k with
   | 0=>.bad
   | k+1=>(mi2 (ff (some d) none) h).bind fun sr h1=>(vD n0 sr.rdr te (fun e=>ff (some d) (some e)) (sr.fuel h1) 0 h1).bind fun _ h2=>sx n0 rd mi2 te ff k (i+1) h2
noncomputable def iG (mi:MI) (ix:List Nat) (mi2:MI) (te:ME):ME:=fun env h=>(mi env h).bind fun sr h1=>(sx h1.length sr.rdr mi2 te (i4 ix env) (sr.fuel h1) 0 (h1++[.lst []])).bind fun _ h2=>.ok (.ref h1.length) h2
section
variable {K:gV}{g:GG}
theorem uZ {α:List Addr}{H:Hp}{env:En}{σ:St}{ix:List Nat}{a b:Option D}{p q:Option V} (s:jQ K g α H env σ) (ra:∀d,a=some d->∃v,p=some v/\aJ K g α H d v) (rb:∀d,b=some d->∃v,q=some v/\aJ K g α H d v):jQ K g α H (i4 ix env a b) (p::q::ix.map fun i=>(σ[i]?).join):=by
 refine⟨by simp[i4],fun i e h=>?_⟩
 match i with
 | 0=>
  have:a=some e:=by simpa [i4] using h
  simp_all
 | 1=>
  have:b=some e:=by simpa [i4] using h
  simp_all
 | i+2=>
  have h':(ix.map fun i=>(env[i]?).join)[i]?=some (some e):=by assumption
  rw[NU] at h'
  cases ei:ix[i]? with
  | none=>simp_all
  | some j=>
   rw[ei] at h'
   have h2:(env[j]?).join=some e:=by simp_all
   cases ej:env[j]? with
   | none=>simp_all
   | some oe=>
    rw[ej] at h2
    have h3:oe=some e:=by simp_all
    subst h3
    obtain⟨u,eu,ru⟩:=s.vars j e ej
    simp_all
theorem sG {α α':List Addr}{n:Nat}{p:Addr}{H H':Hp} (e:Ext K α H α' H') (h:α[n]?=some p):α'[n]?=some p:=by
 obtain⟨l,rfl⟩:=e.toEx0.pre
 rw[NN]
 ·exact h
 ·by_cases hl:n<α.length
  ·exact hl
  ·rw[Ot (by lia)] at h;cases h
theorem Ah {mi mi2:MI}{te:ME}{ix:List Nat}{σ:St}{H:Hp}{Q:VK} (t:tM K g E00 (iG mi ix mi2 te) σ H Q):xo (tMI K g E00 mi) ix (tMI K g E00 mi2) (tM K g E00 te) σ H Q:=by
 obtain⟨α,env,h,s,w⟩:=t
 refine⟨α,env,h,s,w.bind.mono fun sr h1 _ w1 J H1 α1 e1 hr1 rd=>fun acc hacc=>?_⟩
 have s1:=s.ext e1 hr1
 have xp:Ext K α1 H1 (α1++[acc]) (upd H1 acc (.lst [])):=Ext.push hacc
 have hrp:aU K g (α1++[acc]) (upd H1 acc (.lst [])) (h1++[.lst []]):=hr1.push hacc ⟨[],bH,.nil⟩
 have p0:(α1++[acc])[h1.length]?=some acc:=by rw[<- hr1.len];simp
 refine⟨fun i m ys H=>∃α h,Ext K α1 H1 α H/\α[h1.length]?=some acc/\aU K g α H h ∧
  WQ K g E00 α1 H1 ((sx h1.length sr.rdr mi2 te (i4 ix env) m i h).bind fun _ h2=>.ok (.ref h1.length) h2) (aS K g α1 H1 Q),
  ⟨sr.fuel h1,_,_,xp,p0,hrp,w1.post e1⟩,?_⟩
 rintro i m ys H2 ⟨α2,h2,x2,p2,hr2,w2⟩
 have q:=rd α2 H2 h2 x2 hr2 i
 unfold sx at w2
 cases e:sr.rdr h2 i with
 | none=>rw[e] at w2;exact w2.elim
 | some od=>
  rw[e] at w2 q
  cases od with
  | none=>exact .inl ⟨q,(show aS K g α1 H1 Q (.ref h1.length) h2 from w2) _ _ _ x2 hr2 (.ref p2)⟩
  | some d=>
   cases m with
   | zero=>exact w2.elim
   | succ m=>
    rw[cL] at w2
    have w3:=WQ.bind (show WQ K g E00 α1 H1 ((mi2 (i4 ix env (some d) none) h2).bind _) _ from w2)
    refine .inr ⟨q.1,fun σ0 x H3 hcap y=>?_⟩
    obtain⟨ts,hl,hσ0⟩:=hcap
    match ts,hl with
    | [v0,q0],_=>
    subst hσ0
    obtain⟨α3,x3,hr3,rx⟩:=q.2 x H3 y
    have s3:dM K g α3 H3 (i4 ix env (some d) none) (some x::q0::ix.map fun i=>(σ[i]?).join) h2:=⟨hr3,uZ (s1.vs.ext (x2.trans x3)) (fun d' hd=>by simp_all) (fun d' hd=>by cases hd)⟩
    refine⟨α3,_,h2,s3,((w3.ext x2).ext x3).mono fun sr2 h4 _ w4 J2 H4 α4 x4 hr4 rd2=>?_⟩
    have x14:=x2.trans (x3.trans x4)
    have p4:=sG (x3.trans x4) p2
    refine⟨fun j m2 zs H=>∃α h,Ext K α4 H4 α H/\aU K g α H h ∧
     WQ K g E00 α1 H1 (((vD h1.length sr2.rdr te (fun e=>i4 ix env (some d) (some e)) m2 j h).bind fun _ h2=>sx h1.length sr.rdr mi2 te (i4 ix env) m (i+1) h2).bind fun _ h2=>.ok (.ref h1.length) h2) (aS K g α1 H1 Q),
     ⟨sr2.fuel h4,α4,h4,Ext.refl,hr4,w4⟩,?_⟩
    rintro j m2 zs H5 ⟨α5,h5,x5,hr5,w5⟩
    have q2:=rd2 α5 H5 h5 x5 hr5 j
    have p5:=sG x5 p4
    unfold vD at w5
    cases e2:sr2.rdr h5 j with
    | none=>rw[e2] at w5;exact w5.elim
    | some od2=>
     rw[e2] at w5 q2
     cases od2 with
     | none=>exact .inl ⟨q2,m,Ph _,α5,h5,x14.trans x5,p5,hr5,w5⟩
     | some d2=>
      cases m2 with
      | zero=>exact w5.elim
      | succ m2=>
       have w6:WQ K g E00 α1 H1 ((te (i4 ix env (some d) (some d2)) h5).bind fun y h2=>(((AS h1.length y h2).bind fun _ h3=>vD h1.length sr2.rdr te (fun e=>i4 ix env (some d) (some e)) m2 (j+1) h3).bind fun _ h2=>sx h1.length sr.rdr mi2 te (i4 ix env) m (i+1) h2).bind fun _ h2=>.ok (.ref h1.length) h2) (aS K g α1 H1 Q):=by
        have:=w5
        simp only[cL] at this ⊢
        lia
       refine .inr ⟨q2.1,fun yv H6 yy=>?_⟩
       obtain⟨α6,x6,hr6,ry⟩:=q2.2 yv H6 yy
       have s6:dM K g α6 H6 (i4 ix env (some d) (some d2)) (some x::some yv::ix.map fun i=>(σ[i]?).join) h5:=⟨hr6,uZ (s1.vs.ext (x14.trans (x5.trans x6))) (fun d' hd=>by cases hd;exact⟨x,rfl,rx.ext (x4.trans (x5.trans x6))⟩) (fun d' hd=>by simp_all)⟩
       refine tM.use s6 ((WQ.bind w6).ext (x14.trans (x5.trans x6))) fun y h7 v7 H7 α7 x7 s7 r7 w7=>?_
       have p7:=sG (x6.trans x7) p5
       unfold AS at w7
       cases el:aH h7 h1.length with
       | none=>rw[el] at w7;exact w7.elim
       | some ds=>
        rw[el] at w7
        dsimp only at w7
        by_cases hlen:ds.length<1000000
        ·rw[if_pos hlen] at w7
         obtain⟨vs,hv,rs⟩:=s7.heap.lst el p7
         have x:=Ext.write (o:=.lst (vs++[v7])) s7.heap p7
         exact⟨vs,hv,by rw[<- rs.length,O5];lia,m2,Ph _,α7,_,(x5.trans (x6.trans x7)).trans x,s7.heap.write (u':=.lst (ds++[y])) p7 ⟨_,bH,(rs.append (.cons r7 .nil)).ext x⟩,w7⟩
        ·rw[if_neg hlen] at w7;exact w7.elim
end
section
variable {X:Cx}{g:GG}
theorem wJ {elt iter iter2:Expr}{x y z:Str}{px py pz:Pos}{scope osc:Ru}{pos spos:Pos}{mi mi2:MI}{te:ME}{i:Nat} (ix:List Nat) (N':List Str)
  (hxe:X.xe=fun _ _=>False) (hc:X.calm=true) (ho:X.env.scope=osc) (hN:N'=[x,y]++ix.map fun i=>(X.N[i]?).getD ("" : Str)) (hnd:N'.Nodup)
  (hall:(∀y∈scope.names,y.2=.free->osc.names.lookup y.1=some .cell)/\(∀y∈scope.names,y.2≠.cell)/\scope.kind=.function/\(∀y∈scope.names,y.2=.local->scope.names.lookup y.1=some .local)/\(∀z∈N'.drop [x,y].length,scope.names.lookup z=some .free))
  (hi:PI X (.Name x px) iter (tMI X.K g E00 mi))
  (hx:∀cl C aE aG fp,Loc (bO X scope cl C aE aG fp N').env.scope x/\(bO X scope cl C aE aG fp N').env.scope.names.lookup x=some .local) (hy:∀cl C aE aG fp,Loc (bO X scope cl C aE aG fp N').env.scope y/\(bO X scope cl C aE aG fp N').env.scope.names.lookup y=some .local)
  (hi2:∀cl C aE aG fp,PI (bO X scope cl C aE aG fp N') (.Name y py) iter2 (tMI X.K g E00 mi2))
  (he:∀cl C aE aG fp,PE (bO X scope cl C aE aG fp N') elt (tM X.K g E00 te))
  (hNN:X.N.Nodup) (hz:X.N[i]?=some z) (hl:X.env.scope.names.lookup z=some .local:=by rfl)
  (hsw:swapsWith (.ListComp elt [⟨.Name x px,iter,[],0⟩,⟨.Name y py,iter2,[],0⟩] scope pos) (some (.Name z pz)) spos.line X.env=pure true:=by rfl)
  (hs:∀x,foldedSetIterable iter X.env x=pure x:=by intro _;rfl) (hs2:∀env x,foldedSetIterable iter2 env x=pure x:=by intro _ _;rfl) :
  PS X (.Assign [.Name z pz] (.ListComp elt [⟨.Name x px,iter,[],0⟩,⟨.Name y py,iter2,[],0⟩] scope pos) spos) (tMS X.K g E00 (aX i (iG mi ix mi2 te))):=
 PS.imp (vy ix [x,y] N' rfl hxe hc ho hN hnd hall hi (fun cl C aE aG fp=>iN hnd (show N'[0]?=some x by rw[hN];rfl) (hx cl C aE aG fp).1 (.inr (hx cl C aE aG fp).2)) hi2 (fun cl C aE aG fp=>iN hnd (show N'[1]?=some y by rw[hN];rfl) (hy cl C aE aG fp).1 (.inr (hy cl C aE aG fp).2)) he hNN hz hl hsw hs hs2) fun E σ H ⟨α,env,h,s,w⟩=>Ah (tM.use s w.bind fun d1 h1 v1 H1 α1 e1 s1 r1 w1=>(show cZ X.K g α H E (.nx (env.set i (some d1))) h1 from w1) H1 α1 e1 s1.heap _ (s1.vs.set r1))
end
noncomputable def Bd (x:Str) (st:Stmt) (ps:List Str):Prop:=∀(kV doc pm:NB) (an:Option Addr) (cdv ct:NB) (us:List NB),us.length=ps.length->bindArgs (Oy x x (eh st) (bW st) (aj st) .none kV doc pm an cdv ct) ⟨us,[]⟩=pure (ps.zip us)
section
variable {P:NW}{w:Oo}{K:gV}{mg:Str->Option NB}{base:Heap}{g:GG}{x:Str}{st:Stmt}{k:Nat}{N ps:List Str}{mb:MS}{m:MF}
theorem fsc {sc:Ru} (a:sc.kind=.function/\sc.isCoroutine=false/\sc.isGenerator=false) (b:(N.Nodup/\N.take ps.length=ps)/\(∀x∈ps,sc.names.lookup x=some .local\/sc.names.lookup x=some .cell)/\∀y∈sc.names,y.2≠.free):az N ps sc:=⟨a.1,a.2.1,a.2.2,b.1.1,b.1.2,b.2.1,b.2.2⟩
theorem dE (D:aA K mg x st) (S:az N ps (aj st)) (B:Bd x st ps)
  (hb:N.Nodup->∀(f:Addr) (cdv:NB) (A:Om) (outer:List Env) (s:NF) (H:Hp) (E:XK),fD k (A.deeper (envOfC x (aj st) s.heap.objs.size f cdv)) →
   PSs (gg CX0 P w K mg base N x (aj st) f cdv A outer s H E).nox (bW st) (tMS K g E00 mb)):Has P w K mg base g x (k+1) ps (bR N.length mb):=
 let ⟨f,fd,hm,F⟩:=D
 ⟨f,fd,nX F S (hb S.nd f),F.kp,F.binds B,hm,cW F⟩
theorem Dw (h:Has P w K mg base g x k ps m):Has P w K mg base g x k ps fun ds h=>(m ds h).bind (eC h):=let ⟨f,fd,a,b⟩:=h;⟨f,fd,uu a,b⟩
theorem bd1 {p:Str} (h:∀kV doc pm an cdv ct a,bindArgs (Oy x x (eh st) (bW st) (aj st) .none kV doc pm an cdv ct) ⟨[a],[]⟩=pure ([p].zip [a])):Bd x st [p]:=fun _ _ _ _ _ _ us hl=>JZ hl (h _ _ _ _ _ _)
theorem bd2 {p q:Str} (h:∀kV doc pm an cdv ct a b,bindArgs (Oy x x (eh st) (bW st) (aj st) .none kV doc pm an cdv ct) ⟨[a,b],[]⟩=pure ([p,q].zip [a,b])):Bd x st [p,q]:=fun _ _ _ _ _ _ us hl=>Af hl (h _ _ _ _ _ _)
theorem bd3 {p q r:Str} (h:∀kV doc pm an cdv ct a b c,bindArgs (Oy x x (eh st) (bW st) (aj st) .none kV doc pm an cdv ct) ⟨[a,b,c],[]⟩=pure ([p,q,r].zip [a,b,c])):Bd x st [p,q,r]:=fun _ _ _ _ _ _ us hl=>HN hl (h _ _ _ _ _ _)
end
section
variable {X:Cx}{g:GG}{E:XK}{k j:Nat}{ps:List Str}{m:MF}{x:Str}{p pos:Pos}{e:Expr}{es:List Expr}{mr:MA}
theorem aO (F:Has X.prog X.w X.K X.mg X.base g x j ps m) (hr:fD k X.A) (ha:PA X (e::es) (tMA X.K g E00 mr)) (hlen:∀env h ds h',mr env h=.ok ds h'->ds.length=ps.length) (hj:j<=k:=by decide) (hg:Gl X x:=by rfl) (hdb:(x == ("__debug__" : Str))=false:=by decide) (he:starEach (e::es) X.env=(false,eval e X.env)::starEach es X.env:=by rfl) (hpl:(backTo pos (starEach es X.env)).any (·.1)=false:=by rfl) :
  PE X (.Call (.Name x p) (e::es) [] pos) (tM X.K g E00 (ah m mr)):=
 let ⟨_,_,G,hk,B,hm,_⟩:=F
 DW (G.mono hj) hr hg hm hk B ha hlen hdb he hpl
end
section
variable {K:gV}{mg:Str->Option NB}{x y:Str}{st:Stmt}
noncomputable def lE (K:gV) (mg:Str->Option NB) (x y:Str) (st:Stmt):Prop:=∃f fd,mg x=some (.ref f)/\Fun K y y st f fd
noncomputable def tL (K:gV) (x y:Str) (st:Stmt):Prop:=∃f fd,Od K mainGlobals x=some (some (.ref f))/\Fun K y y st f fd
theorem DB {f:Addr}{oc:NB}{od an:Option Addr}{osl:Array (Option NB)}{kV doc pm cdv ct:NB} (a:Od K mainGlobals x=some (some (.ref f)))
  (l:K.lookup f=some ⟨oc,od,.func (Oy y y (eh st) (bW st) (aj st) .none kV doc pm an cdv ct),osl⟩) (c:Qr K cdv y=true) (k:OF K (.ref f)=true):tL K x y st:=⟨f,_,a,xP l c k⟩
theorem lE.of {h:Heap} (X:K.In h) (G:h.Ns mainGlobals mg) (d:tL K x y st):lE K mg x y st:=
 let ⟨f,fd,a,F⟩:=d;⟨f,fd,Ql X G a,F⟩
end
variable {X:Cx}{g:GG}
theorem yd {K:gV}{ε:EE}{mi:MI}{ix:List Nat}{tt:TT}{te:TE}{σ:St}{H:Hp}{Q:VK} (t:FY (tMI K g ε mi) ix tt te σ H Q):um (tMI K g ε mi) 1 ix (iZ 0) tt te σ H Q:=by
 obtain⟨α,env,h,s,w⟩:=t
 refine⟨α,env,h,s,w.mono fun sr h1 _ z J H' α' e hr rd acc ha=>?_⟩
 obtain⟨W,w0,st⟩:=z J H' α' e hr rd acc ha
 refine⟨W,w0,fun i m ys H1 hw=>(st i m ys H1 hw).imp id fun⟨a,b⟩=>⟨a,fun σ0 x H2 hc hy=>?_⟩⟩
 obtain⟨ts,tl,rfl⟩:=hc
 match ts,tl with
 | [t0],_=>exact⟨⟨[some x],rfl,rfl⟩,b x H2 hy⟩
theorem cP [ky nl]{elt iter:Expr}{x:Str}{px:Pos}{ifs:List Expr}{scope osc:Ru}{pos:Pos}{mi:MI}{tt:MT}{te:ME} (ix) (N')
  (hxe:X.xe=fun _ _=>False) (hc:X.calm=true) (ho:X.env.scope=osc) (hN:N'=x::ix.map fun i=>(X.N[i]?).getD ("" : Str)) (hnd:N'.Nodup)
  (hall:(∀y∈scope.names,y.2=.free->osc.names.lookup y.1=some .cell)/\(∀y∈scope.names,y.2≠.cell)/\scope.kind=.function/\(∀y∈scope.names,y.2=.local->scope.names.lookup y.1=some .local)/\scope.names.lookup x=some .local/\(∀y∈N'.tail,scope.names.lookup y=some .free))
  (hi:PI X (.Name x px) iter (tMI X.K g E00 mi))
  (ht:∀cl C aE aG fp,PTs (bO X scope cl C aE aG fp N') ifs (tMT X.K g E00 tt))
  (he:∀cl C aE aG fp,PE (bO X scope cl C aE aG fp N') elt (tM X.K g E00 te))
  (hs:∀x,foldedSetIterable iter X.env x=pure x:=by intro _;rfl) :
  PE X (.ListComp elt [⟨.Name x px,iter,ifs,0⟩] scope pos) (tM X.K g E00 (bT nl mi ix tt te)):=by
 refine PE.imp (PE.frz (Dg ix [x] N' hxe hc ho hN hnd ⟨hall.1,hall.2.1,hall.2.2.1,hall.2.2.2.1,fun y hy=>hall.2.2.2.2.2 y (by simp_all)⟩ hi (fun cl C aE aG fp=>iN hnd (show N'[0]?=some x by grind) (.inl (QI hall.2.2.2.2.1)) (.inr (QI hall.2.2.2.2.1))) ht he hs)) fun σ H Q t=>?_
 exact yd (vM (fun _ _ z=>z) t)
theorem kj {nl:NL} [ky nl]{elt iter:Expr}{x z:Str}{px pz:Pos}{ifs:List Expr}{scope osc:Ru}{pos spos:Pos}{mi:MI}{tt:MT}{te:ME}{i:Nat} (ix:List Nat) (N':List Str)
  (hxe:X.xe=fun _ _=>False) (hc:X.calm=true) (ho:X.env.scope=osc) (hN:N'=x::ix.map fun i=>(X.N[i]?).getD ("" : Str)) (hnd:N'.Nodup)
  (hall:(∀y∈scope.names,y.2=.free->osc.names.lookup y.1=some .cell)/\(∀y∈scope.names,y.2≠.cell)/\scope.kind=.function/\(∀y∈scope.names,y.2=.local->scope.names.lookup y.1=some .local)/\scope.names.lookup x=some .local/\(∀y∈N'.tail,scope.names.lookup y=some .free))
  (hi:PI X (.Name x px) iter (tMI X.K g E00 mi))
  (ht:∀cl C aE aG fp,PTs (bO X scope cl C aE aG fp N') ifs (tMT X.K g E00 tt))
  (he:∀cl C aE aG fp,PE (bO X scope cl C aE aG fp N') elt (tM X.K g E00 te))
  (hNN:X.N.Nodup) (hz:X.N[i]?=some z) (hl:X.env.scope.names.lookup z=some .local:=by rfl)
  (hsw:swapsWith (.ListComp elt [⟨.Name x px,iter,ifs,0⟩] scope pos) (some (.Name z pz)) spos.line X.env=pure true:=by rfl)
  (hs:∀x,foldedSetIterable iter X.env x=pure x:=by intro _;rfl) :
  PS X (.Assign [.Name z pz] (.ListComp elt [⟨.Name x px,iter,ifs,0⟩] scope pos) spos) (tMS X.K g E00 (aX i (bT nl mi ix tt te))):=by
 refine PS.imp (PS.frz (vU ix [x] N' hxe hc ho hN hnd ⟨hall.1,hall.2.1,hall.2.2.1,hall.2.2.2.1,fun y hy=>hall.2.2.2.2.2 y (by simp_all)⟩ hi (fun cl C aE aG fp=>iN hnd (show N'[0]?=some x by grind) (.inl (QI hall.2.2.2.2.1)) (.inr (QI hall.2.2.2.2.1))) ht he hNN hz hl hsw hs)) fun E σ H ⟨α,env,h,s,w⟩=>yd (vM (fun v H1 z=>Eg z) (tM.use s w.bind fun d1 h1 v1 H1 α1 e1 s1 r1 w1=>(show cZ X.K g α H E (.nx (env.set i (some d1))) h1 from w1) H1 α1 e1 s1.heap _ (s1.vs.set r1)))
end L2.FE
namespace L2.FE
open PySem PySem.Spec PyProof.Rows
noncomputable def FI (X:Cx) (g:GG) (α:List Addr) (h:Hh) (H1:Hp) (s1:NF) (d:D) (u:NB) (s2:NF):Prop:=∃p H2,u=.ref p/\s2.os=s1.os/\s2.gens=s1.gens/\HOk X.prog X.w H2 s2.heap/\Un X.fs [] X.aG H2 X.aE.heap s2.heap/\Ext X.K α H1 α H2/\aU X.K g α H2 h/\aJ X.K g α H2 d (.ref p) ∧
 (∀b o,H1 b=none->s1.heap.get? b=some o->s2.heap.get? b=some o)/\(∀b o,s1.heap.get? b=some o->H1 b=none->(∀x c,X.env.cells.lookup x=some c->c≠b)->H2 b=none)/\(∀b o,s1.heap.get? b=some o->(∀vs,o.data≠.fields vs)->s2.heap.get? b=some o)
theorem AE {X:Cx}{g:GG}{pins:List (Addr × Obj)}{σ:St}{H1:Hp}{s1:NF}{α:List Addr}{h:Hh}{params:R0}{body:Expr}{scope:Ru}{pos:Pos}{clos:List (Str × Addr)}{c PT f:Addr}{lf x ql:Str}{ys:List Str}{vs:List V}{ds:List D}{E:NB->NF->Prop}
  (J:Inv X pins σ H1 s1) (hex:X.ex=[]) (hdef:defaultsOf params X.env=([],[])) (hq:X.env.qual++"<lambda>" = ql) (hcode:X.env.code=.ref c) (C:O1 X.K c PT=true) (hB:X.base.BuiltinsAt X.mg PT) (hgP:mainGlobals≠PT)
  (hmk:jN X.K f=some (PT,pos,ql)) (uq:∀f q,jN X.K f=some q->q.1=PT->q.2=(pos,ql)) (hcl:closureFor scope X.env=pure clos) (hcs:∀y c,clos.lookup y=some c->X.env.cells.lookup y=some c) (hfn:∀y,X.fn y=true)
  (T:oy lf x ql ys params body scope) (hr:aU X.K g α H1 h) (hvs:Paired (fun y v=>(∃c,clos.lookup y=some c)/\X.env.kindOf y=some .cell/\∃i:Nat,X.N[i]?=some y/\σ[i]?=some (some v)) ys vs) (rds:ax X.K g α H1 ds vs) :
  wpAny (model X.prog X.w) X.A (eval (.Lambda params body scope pos) X.env) (FI X g α h H1 s1 (.clo lf ds)) E s1:=by
 subst hq
 refine PySem.W.kla_eval hdef ?_
 have Ch:PySem.W.CodeHd s1.heap c PT:=RF J.kIn C
 have hg:s1.heap.Ns mainGlobals X.mg:=J.mod.glob.keeps J.bk
 have hb:=qV J.bk hB
 obtain⟨m,hns,hloc⟩:=J.loc
 have fin:∀(h':Heap) (tk:Tok) (c':Addr) (ctv:NB) (oc:Obj) (vc:Array NB) (t:Tok) (ps more:Array NB),H1 PT=some (.tbl ps)->(∀b o,b≠PT->s1.heap.get? b=some o->h'.get? b=some o)->s1.heap.objs.size<=h'.objs.size->h'.get? PT=some (Po (ps++more)) →
   ps++more = #[rawInt pos.line,rawInt pos.col,.ref c']->h'.get? c'=some oc->oc.data=.fields vc->vc[1]?=some (.str (X.env.qual++"<lambda>") t)->c'≠PT->((H1 c'=none/\s1.heap.objs.size<=c')\/H1 c'=some (AtO c' oc)) →
   FI X g α h H1 s1 (.clo lf ds) (.ref h'.objs.size) { s1 with heap:=h'.push (OC "<lambda>" (X.env.qual++"<lambda>") params body scope clos ((X.mg "__name__").getD .none) c' ctv),toks:=tk }:=by
  intro h' tk c' ctv oc vc t ps more hPT hk hsz hT hT2 hc hd hv hcP hc1
  have kp:∀b o,h'.get? b=some o->(h'.push (OC "<lambda>" (X.env.qual++"<lambda>") params body scope clos ((X.mg "__name__").getD .none) c' ctv)).get? b=some o:=fun b o e=>k5 _ e
  have pp:(h'.push (OC "<lambda>" (X.env.qual++"<lambda>") params body scope clos ((X.mg "__name__").getD .none) c' ctv)).get? h'.objs.size=some (OC "<lambda>" (X.env.qual++"<lambda>") params body scope clos ((X.mg "__name__").getD .none) c' ctv):=NH _ rfl
  have M:MkS X.prog X.w (fun b=>b=h'.objs.size\/b=c'\/∃y,clos.lookup y=some b) s1.heap (h'.push (OC "<lambda>" (X.env.qual++"<lambda>") params body scope clos ((X.mg "__name__").getD .none) c' ctv)) PT ps more H1:=by
   refine⟨J.hok,hPT,fun b o n e=>kp b o (hk b o n e),kp _ _ hT,fun b hb=>?_⟩
   rcases hb with rfl | rfl | ⟨y,hy⟩
   ·exact⟨fun z=>absurd (tv hT) (by rw[<- z];exact OH _),⟨_,pp⟩,.inl (J.hok.fresh hsz)⟩
   ·refine⟨hcP,⟨_,kp _ _ hc⟩,?_⟩
    rcases hc1 with⟨z,_⟩ | z
    ·exact .inl z
    ·exact .inr ⟨_,z⟩
   ·have z:=J.gm y b (hcs y b hy)
    obtain⟨v,o,e,_⟩:=J.cell y b (hcs y b hy)
    have n:=(bh hPT z).symm
    exact⟨n,⟨o,kp _ _ (hk b o n e)⟩,.inl z⟩
  have atp:=M.at_ (.inl rfl) pp
  have atc:=M.at_ (.inr (.inl rfl)) (kp _ _ hc)
  refine⟨h'.objs.size,_,rfl,rfl,rfl,M.IB,M.un (hex ▸ J.base) fun b hb=>?_,M.ext,M.J1 hr uq (.inr ⟨c',oc,vc,t,?_,atc,hd,hv⟩),?_,fun b o n e=>kp b o (hk b o (bh hPT n).symm e),fun b o e n hcc=>M.non n fun hb=>?_,fun b o e nf=>kp b o (hk b o (fun z=>by
   subst z
   have e2:s1.heap.get? b=some (Po ps):=J.hok b _ hPT
   rw[e] at e2
   cases e2
   exact nf _ rfl) e)⟩
  ·rcases hb with rfl | rfl | ⟨y,hy⟩
   ·exact .inl (N4 J.sz hsz)
   ·rcases hc1 with⟨_,z⟩ | z
    ·exact .inl (N4 J.sz z)
    ·exact .inr (by rw[z];exact fun q=>nomatch q)
   ·exact .inl (J.ok.cab y b (hfn y) (hcs y b hy))
  ·rw[M.pt,hT2]
  ·refine .clo atp ⟨params,body,scope,_,ctv,x,rfl,T⟩ atc hd hv (L2.Paired.qd hvs fun y v ⟨⟨cc,hcc⟩,kd,i,hN,hσ⟩=>?_) (rds.ext M.ext)
   obtain⟨u,ru,lk⟩:=hloc i y v hN hσ (.inr (.inl kd))
   rcases lk with⟨z,_⟩ | ⟨_,c2,hc2,o,e,hdo⟩
   ·rw[kd] at z;cases z
   ·rw[hcs y cc hcc] at hc2
    cases hc2
    have z:=J.gm y cc (hcs y cc hcc)
    exact⟨cc,o,u,hcc,M.at_ (.inr (.inr ⟨y,hcc⟩)) (kp _ _ (hk cc o (bh hPT z).symm e)),hdo,ru⟩
  ·rcases hb with rfl | rfl | ⟨y,hy⟩
   ·exact absurd (tv e) (Qb.mpr hsz)
   ·rcases hc1 with⟨_,z⟩ | z
    ·exact absurd (tv e) (Qb.mpr z)
    ·rw[n] at z;cases z
   ·exact hcc y b (hcs y b hy) rfl
 rcases hr.tab f _ hmk with hPT | ⟨c',oc,vc,t,hPT,hc,hd,hv⟩
 ·have hP:s1.heap.get? PT=some (Po #[]):=J.hok PT _ hPT
  refine PySem.W.kla_makeFunction hcl J.ok.glob hg hcode Ch hP trivial rfl hgP hb fun c' ctv h' tk hx hge hlt hrec htb=>?_
  obtain⟨c2,oc,vc,t,z,hc,hd,hv⟩:=hrec
  cases z
  refine fin h' tk c' ctv oc vc t _ _ hPT (fun b o n e=>hx b o n e) (by lia) htb (by simp) hc hd hv (fun z=>?_) (.inl ⟨J.hok.fresh hge,hge⟩)
  exact absurd (tv hP) (by rw[<- z];exact Qb.mpr hge)
 ·have hP:s1.heap.get? PT=some (Po #[rawInt pos.line,rawInt pos.col,.ref c']):=J.hok PT _ hPT
  refine PySem.W.kla_makeFunctionHit (cv:=.ref c') hcl J.ok.glob hg hcode Ch hP trivial (by simp[codeAmong,rawInt]) hb fun ctv h' tk hk hsz=>?_
  refine fin h' tk c' ctv oc vc t _ #[] hPT (fun b o n e=>hk b o e) hsz (by rw[Array.append_empty];exact hk _ _ hP) (by simp) (hk _ _ (jy J.hok hc)) hd hv (fun z=>?_) (.inr hc)
  rw[z,hPT] at hc;cases hc
noncomputable def GX (n:Nat) (m:MS) (lf:Str) (ix:List Nat) (i1:Nat) (m2:MF):MF:=fun ds h=>(m (ds.map some++N1 (n - ds.length) none) h).bind fun fl h1=>match fl with
 | .nx e=>(match (e[i1]?:Option (Option D)),nM ix e with
  | some (some d),some cs=>m2 [d,.clo lf cs] h1
  | _,_=>.bad)
 | _=>.bad
section
variable {P:NW}{w:Oo}{K:gV}{mg:Str->Option NB}{base:Heap}{g:GG}
theorem G8 {x:Str}{st:Stmt}{f f2:Addr}{fd fd2:QW}{N ps ps2:List Str}{k:Nat}{mb:MS}{m2:MF} (rows:List Stmt){params:R0}{body:Expr}{scope:Ru}{pos rpos cpos gp yp:Pos} (lf y g2 y1:Str) (ys:List Str) (ix:List Nat) (i1:Nat){c PT:Addr} (F:Fun K x x st f fd) (S:az N ps (aj st)) (M:Mkr K mg base fd c PT)
  (G2:eK P w K mg base CX0 k f2 fd2 ps2 (spM K g 2 m2)) (hk2:OF K (.ref f2)=true) (B2:Binds K fd2 ps2 []) (hm2:mg g2=some (.ref f2))
  (hbd:bW st=rows++[.Return (some (.Call (.Name g2 gp) [.Name y1 yp,.Lambda params body scope pos] [] cpos)) rpos]) (hdef:∀env,defaultsOf params env=([],[]))
  (hfr:∀q∈scope.names,q.2=.free->(aj st).names.lookup q.1=some .cell) (hyf:∀z∈ys,(z,Qj)∈scope.names)
  (hix:ix.map (fun i=>N[i]?)=ys.map some) (T:oy lf y (x++".<locals>." ++ "<lambda>") ys params body scope)
  (hg2:(aj st).names.lookup g2=some .globalImplicit) (hgd:(g2 == ("__debug__" : Str))=false) (hi1:N[i1]?=some y1) (hv1:Vis (aj st) y1) (hd1:(y1 == ("__debug__" : Str))=false) (hcd1:(y1 == ("__classdict__" : Str))=false)
  (hb:∀cdv A outer s H E , fD k (A.deeper (envOfC x (aj st) s.heap.objs.size f cdv)) →
   PSs (gg CX0 P w K mg base N x (aj st) f cdv A outer s H E).nox rows (tMS K g E00 mb)):eK P w K mg base CX0 (k+1) f fd ps (spM K g ps.length (GX N.length mb lf ix i1 m2)):=by
 obtain⟨oc,od,kV,doc,pm,an,cdv,ct,osl,rfl,lk,hcd⟩:=F.ex
 have hmk:zV (Oy x x (eh st) (bW st) (aj st) .none kV doc pm an cdv ct)=some pos:=by
  unfold zV Oy
  simp_all
 have hT:=yF lk M.code M.hd hmk
 obtain rfl:cdv=.ref c:=M.code
 refine x9 lk hcd S (fun vs H Q E h=>h.1) hbd fun A outer s H vs Q E hr hsp=>?_
 obtain⟨hl,α,ds,h,rs,hh,w1⟩:=hsp
 refine⟨_,fun σ H1=>∃α1 e h1 cs d1,Ext K α H α1 H1/\dM K g α1 H1 e σ h1/\nM ix e=some cs/\e[i1]?=some (some d1)/\WQ K g E00 α H (m2 [d1,.clo lf cs] h1) (aS K g α H Q),(hb (.ref c) A outer s H E hr).nox,?_,fun σ H1 s1 J hR=>?_⟩
 ·refine tMS.use ⟨hh,lN rs⟩ w1.bind fun fl h' H' α' e r kk=>?_
  cases fl with
  | nx e'=>
   intro σ' s'
   dsimp only at kk
   cases e1:(e'[i1]?:Option (Option D)) with
   | none=>rw[e1] at kk;exact kk.elim
   | some o=>
    cases o with
    | none=>rw[e1] at kk;exact kk.elim
    | some d1=>
     cases ec:nM ix e' with
     | none=>rw[e1,ec] at kk;exact kk.elim
     | some cs=>rw[e1,ec] at kk;exact⟨α',e',h',cs,d1,e,s',ec,e1,kk⟩
  | bk e'=>exact kk.elim
  | ct e'=>exact kk.elim
  | rt d=>exact kk.elim
 ·obtain⟨α1,e,h1,cs,d1,ex,sr,ec,ed1,wq⟩:=hR
  have hs:∀q∈scope.names,q.2=.free->((envOfC x (aj st) s.heap.objs.size f (.ref c)).cells.lookup q.1).isSome=true:=fun q hq e=>PN _ _ _ (.inl (hfr q hq e))
  obtain⟨vs',pv,rds⟩:=oj sr.vs hix ec
  obtain⟨v1,ev1,rv1⟩:=sr.vs.vars i1 d1 ed1
  have pv2:Paired (fun z v=>(∃c,(ie (envOfC x (aj st) s.heap.objs.size f (.ref c)).cells scope.names []).lookup z=some c)/\(aj st).names.lookup z=some .cell/\∃i:Nat,N[i]?=some z/\σ[i]?=some (some v)) ys vs':=by
   clear ec rds hix T
   induction pv with
   | nil=>exact .nil
   | cons q t ih=>exact .cons ⟨oh scope.names [] (hyf _ (NG ..)),hfr (_,.free) (hyf _ (NG ..)) rfl,q⟩ (ih fun z hz=>hyf z (ox _ hz))
  refine RU ?_
  refine Qv (PU S.kind hg2 (QV (J.mod.glob.keeps J.bk) hm2 ?_) hgd)
  refine QX (h₀:=s1.heap) J.kIn hk2 ?_ gU rfl
  rw[gU,rP]
  refine Qu (thn (AW (X:=gg CX0 P w K mg base N x (aj st) f (.ref c) A outer s H E) hi1 hv1 hd1 hcd1 [] s1 σ H1 (fun v' H'=>v'=v1/\H'=H1) J ⟨v1,ev1,rfl,rfl⟩) fun u1 s1' ⟨v',H',J',ru,hv',hH'⟩=>?_)
  subst hv' hH'
  have lm:=AE (X:=gg CX0 P w K mg base N x (aj st) f (.ref c) A outer s H E) (g:=g) (α:=α1) (h:=h1) (E:=(gg CX0 P w K mg base N x (aj st) f (.ref c) A outer s H E).xe) J' rfl (hdef _) rfl rfl M.hd M.bat M.ne hT (fun f' q e1 e2=>BQ M.uq hT e1 e2) (zF hs) (fun z c e=>oR scope.names [] hs (fun _ _ z=>nomatch z) e) (fun _=>rfl) T sr.heap pv2 rds
  refine Qu (thn lm fun u2 s2 md=>?_)
  obtain⟨p,H2,rfl,os,gn,hok,un,ex2,hr2,rd,kn,nn,kf⟩:=md
  have kb:∀b o,base.get? b=some o->s2.heap.get? b=some o/\H2 b=none:=fun b o e=>by
   obtain⟨a1,a2⟩:=J'.bs b o e
   refine⟨kn b o a2 a1,nn b o a1 a2 fun z cc hz q=>?_⟩
   have:=J'.ok.cab z cc rfl hz
   have lb:=tv e
   have bz:=J'.ok.bsz
   rw[q] at this
   exact absurd lb (Qb.mpr (N4 bz this))
  have KX:K.In s2.heap:=J'.ok.mod.kin.keeps fun b o e=>(kb b o e).1
  obtain⟨m,hns,_⟩:=J'.loc
  obtain⟨oL,esL,epL,eL,_⟩:=hns
  have eL2:=kn _ oL J'.free eL
  have e0:vd P w K mg base (gg CX0 P w K mg base N x (aj st) f (.ref c) A outer s H E).A (gg CX0 P w K mg base N x (aj st) f (.ref c) A outer s H E).stack s2 H2:=by
   refine⟨J'.ok.frames,J'.ok.mod,kb,N4 (N4 J'.ok.bsz J'.ok.above) (QP (tv eL2)),SI.of_keeps (fun b o e nf=>⟨o,kf b o e nf,rfl⟩) J'.stack,fun b hb=>?_,hok,by rw[gn];exact J'.bare⟩
   have hf:=J'.nJ b hb
   obtain⟨_,o,ho,_⟩:=J'.stack.mem hb
   refine nn b o ho hf fun z cc hz q=>?_
   rcases NQ.mp (J'.km b hb) with zz | zz
   ·exact J'.cne z cc hz (q.trans zz)
   ·obtain⟨_,o3,ho3,_⟩:=J'.ok.mn.mem zz
    have:=J'.ok.cab z cc rfl hz
    rw[q] at this
    exact absurd (tv ho3) (Qb.mpr this)
  refine RX ⟨KX,?_⟩
  have rr:Vals [v',.ref p] [u1,.ref p]:=.cons ru (.cons rfl .nil)
  have sp2:spM K g 2 m2 [v',.ref p] H2 Q E0:=⟨rfl,α1,[d1,.clo lf cs],h1,.cons (rv1.ext ex2) (.cons rd .nil),hr2,(wq.post ex).post ex2⟩
  have l2:([u1,Pr p]:List NB).length=ps2.length:=by
   have:=G2.len _ _ _ _ sp2
   omega
  have hb2:=B2 s2 [u1,.ref p] KX (by simp_all)
  rw[P9] at hb2
  refine RY (Pg (G2.run _ _ s2 H2 ⟨[u1,.ref p],[]⟩ [u1,.ref p] [v',.ref p] Q E0 hr e0 hb2 rr sp2) fun r s' hq=>?_)
  cases r with
  | error e=>exact QD hq
  | ok fl=>
   cases fl with
   | ret z=>
    obtain⟨yv,H3,os3,bare3,un3,hok3,r3,q3⟩:=(show CE _ P w H2 s2 Q z s' from hq)
    have hL:frs (gg CX0 P w K mg base N x (aj st) f (.ref c) A outer s H E).stack=s.heap.objs.size::frs outer:=rfl
    refine⟨z,rfl,yv,H3,os3.trans (os.trans J'.os),bare3,?_,hok3,r3,q3⟩
    have un2:Un (frs outer) [] H H2 s.heap s2.heap:=un
    have old:∀{b:Addr} {o:Obj},s.heap.get? b=some o->b∉frs outer->b∉frs (gg CX0 P w K mg base N x (aj st) f (.ref c) A outer s H E).stack:=fun{b o} e n z=>by
     rw[hL] at z
     rcases NQ.mp z with z | z
     ·exact absurd (tv e) (by simp_all)
     grind
    refine⟨fun b o e n hb' hx=>un3.keep b o (un2.keep b o e n hb' hx) (un2.free b o e n hx) (old e hb') hx,fun b o e n hb' hx=>?_,fun b o e n hx=>?_,fun b o e hx=>?_,fun b xs e=>un3.jL b xs (un2.jL b xs e),fun b o xs e=>un3.kr b o xs (un2.kr b o xs e),fun b ps e=>?_⟩
    ·obtain⟨sl,e1⟩:=un2.slot b o e n hb' hx
     obtain⟨sl',e2⟩:=un3.slot b _ e1 (un2.free b o e n hx) (by simp_all) hx
     simp_all
    ·obtain⟨o',e1⟩:=un2.there b o e hx
     exact un3.free b o' e1 (un2.free b o e n hx) hx
    ·obtain⟨o',e1⟩:=un2.there b o e hx
     exact un3.there b o' e1 hx
    ·obtain⟨m1,e1⟩:=un2.kW b ps e
     obtain⟨m2',e2⟩:=un3.kW b _ e1
     grind
   | next=>assumption
   | brk=>assumption
   | cont=>assumption
end
end L2.FE
namespace L2.SM
open PySem PySem.W PyProof.Rows
noncomputable def sM:Bool->Keyed->Array Keyed->Nat->Nat->Nat->StateT SortSt Sem (Option Nat):=sortPriv% PySem.Builtin.gallop
noncomputable def CK:Array Keyed->Array Keyed->StateT SortSt Sem (Array Keyed):=sortPriv% PySem.Builtin.mergeLo
noncomputable def BZ:Array Keyed->Array Keyed->StateT SortSt Sem (Array Keyed):=sortPriv% PySem.Builtin.mergeHi
section
variable {prog:NW}{w:Oo}{A:Om}{E:NB->NF->Prop}{s:NF}
noncomputable def Gv (prog:NW) (w:Oo) (A:Om) (E:NB->NF->Prop) (s:NF){α:Type} (m:StateT N0 Sem α) (st:N0) (Q:α->N0->Prop):Prop:=
 kasC (model prog w) A E m (fun a st' s'=>s'=s/\Q a st') st s
theorem Gv.pure {Q:α->N0->Prop}{st:N0} (h:Q a st):Gv prog w A E s (Pure.pure a:StateT N0 Sem α) st Q:=kasC_pure ⟨rfl,h⟩
theorem Gv.bind {f:α->StateT N0 Sem β}{st:N0} (h:Gv prog w A E s m st fun a st'=>Gv prog w A E s (f a) st' Q):Gv prog w A E s (m >>= f) st Q:=by
 refine kasC_bind (OW h (fun r s' h'=>?_) fun _ _ e=>e)
 obtain⟨e,h'⟩:=h'
 subst e
 exact h'
theorem Gv.mono {st:N0} (h:Gv prog w A E s m st Q) (q:∀a st',Q a st'->Q' a st'):Gv prog w A E s m st Q':=OW h (fun r s' h'=>⟨h'.1,q _ _ h'.2⟩) fun _ _ e=>e
theorem Gv.get {st:N0} (h:Q st st):Gv prog w A E s (MonadState.get:StateT N0 Sem N0) st Q:=kasC_get ⟨rfl,h⟩
theorem Gv.set {st st':N0} (h:Q ⟨⟩ st'):Gv prog w A E s (MonadState.set st':StateT N0 Sem PUnit) st Q:=by
 exact td ⟨rfl,h⟩
theorem Gv.modify {st:N0} (h:Q ⟨⟩ (f st)):Gv prog w A E s (_root_.modify f:StateT N0 Sem PUnit) st Q:=kasC_modify ⟨rfl,h⟩
theorem Gv.lift {Q:α->N0->Prop}{st:N0} (h:wpAny (model prog w) A m (fun a s'=>s'=s/\Q a st) E s):Gv prog w A E s (liftM m:StateT N0 Sem α) st Q:=kasC_lift h
theorem Gv.rule {id:String}{st:N0} (h:Q () st):Gv prog w A E s (liftM (PySem.rule id):StateT N0 Sem Unit) st Q:=Gv.lift (Td ⟨rfl,h⟩)
theorem yz {β:Type}{f:Nat->β->StateT N0 Sem (ForInStep β)} (I:Nat->β->N0->Prop) (D:β->N0->Prop)
  (step:∀x n b st,I (n+1) b st->Gv prog w A E s (f x b) st fun r st'=>match r with | .done b'=>D b' st' | .yield b'=>I n b' st')
  (fin:∀b st,I 0 b st->D b st):∀(l:List Nat) (b:β) (st:N0),I l.length b st->Gv prog w A E s (forIn l b f) st D
 | [],b,st,h=>kasC_nil ⟨rfl,fin b st h⟩
 | x::l,b,st,h=>by
  have ih:=yz I D step fin l
  refine kasC_cons (OW (step x l.length b st h) (fun r s' h'=>?_) fun _ _ e=>e)
  obtain⟨e,h'⟩:=h'
  subst e
  revert h'
  cases r.1 with
  | done b'=>simp
  | yield b'=>intro h';exact ih b' r.2 h'
theorem Gv.range {st:N0} (I:Nat->β->N0->Prop) (h0:I (b - a) c st)
  (step:∀x n b st,I (n+1) b st->Gv prog w A E s (f x b) st fun r st'=>match r with | .done b'=>Q b' st' | .yield b'=>I n b' st')
  (fin:∀b st,I 0 b st->Q b st):Gv prog w A E s (forIn [a:b] c f) st Q:=
 kasC_range (yz I Q step fin _ _ _ (by simp_all))
theorem Gv.elem {st:N0} (e:arr[i]?=some x) (h:Q x st):Gv prog w A E s (elem' arr i) st Q:=by
 rw[elem'_eq,e];exact Gv.pure h
theorem Gv.lt {st:N0} (hc:∀C:Bool->NF->Prop,C c s->wpAny (model prog w) A (keyLt' (kindOf st) x.1 y.1) C (fun _ _=>False) s) (h:Q (some c) st):Gv prog w A E s (lt' x y) st Q:=by
 refine Gv.bind (Gv.get ?_)
 refine Gv.bind (Gv.lift (S0 (OW (hc (fun c' s'=>c'=c/\s'=s) ⟨rfl,rfl⟩) (fun c' s' hc'=>?_) fun _ _ hF=>hF.elim)))
 obtain⟨rfl,rfl⟩:=hc'
 exact⟨rfl,Gv.pure h⟩
end
section
variable {prog:NW}{w:Oo}{A:Om}{E:NB->NF->Prop}{s:NF}{κ:Qz}{P:Of->Prop}{kk:Of->Int}
noncomputable def Cmp (prog:NW) (w:Oo) (A:Om) (s:NF) (κ:Qz) (P:Of->Prop) (kk:Of->Int):Prop:=∀x y,P x->P y->∀C:Bool->NF->Prop,C (decide (kk x<kk y)) s->wpAny (model prog w) A (keyLt' κ x.1 y.1) C (fun _ _=>False) s
theorem Gv.ltC {st:N0} (c:Cmp prog w A s κ P kk) (hx:P x) (hy:P y) (hk:kindOf st=κ) (h:Q (some (decide (kk x<kk y))) st):Gv prog w A E s (lt' x y) st Q:=by
 subst hk
 exact Gv.lt (c x y hx hy) h
noncomputable def kAt (kk:Of->Int) (a:Array Of) (i:Nat):Int:=((a[i]?).map kk).getD 0
theorem Ct {a:Array Of}{i:Nat}{x:Of} (e:a[i]?=some x):kAt kk a i=kk x:=by unfold kAt;rw[e];rfl
noncomputable def bey (kk:Of->Int) (left:Bool) (key:Of) (arr:Array Of) (base i:Nat):Bool:=if left then decide (kAt kk arr (base+i)<kk key) else !decide (kk key<kAt kk arr (base+i))
theorem Gb {st:N0} (c:Cmp prog w A s κ P kk) (ha:∀x∈arr,P x) (hy:P key) (hk:kindOf st=κ) (hi:base+i<arr.size)
  (h:Q (some (bey kk left key arr base i)) st):Gv prog w A E s (do
   let x ← elem' arr (base+i)
   if left=true then lt' x key else do
    let r ← lt' key x
    pure (r.map (!·))) st Q:=by
 have e:arr[base+i]?=some arr[base+i]:=by simp[hi]
 have hp:=ha _ (N8 hi)
 have hv:=Ct (kk:=kk) e
 unfold bey at h
 rw[hv] at h
 refine Gv.bind (Gv.elem e ?_)
 cases left with
 | true=>exact Gv.ltC c hp hy hk h
 | false=>exact Gv.bind (Gv.ltC c hy hp hk (Gv.pure h))
theorem rN {st:N0} (c:Cmp prog w A s κ P kk) (ha:∀x∈arr,P x) (hy:P key) (hk:kindOf st=κ) (hn:base+n<=arr.size) (hh:hint<n)
  (mo:∀i j,i<=j->j<n->bey kk left key arr base j=true->bey kk left key arr base i=true)
  (h:∀k,k<=n->(∀i,i<k->bey kk left key arr base i=true)->(∀i,k<=i->i<n->bey kk left key arr base i=false)->Q (some k) st):Gv prog w A E s (sM left key arr base n hint) st Q:=by
 have B:∀{i:Nat} {Q:Option Bool->N0->Prop},i<n->Q (some (bey kk left key arr base i)) st->Gv prog w A E s (do
   let x ← elem' arr (base+i)
   if left=true then lt' x key else do
    let r ← lt' key x
    pure (r.map (!·))) st Q:=fun{i Q} hi h=>Gb c ha hy hk (by lia) h
 have mo':∀i j,i<=j->j<n->bey kk left key arr base i=false->bey kk left key arr base j=false:=fun i j hij hj e=>by
  grind
 generalize bey kk left key arr base=b at *
 -- the last loop
 have L3:∀lo hi,lo<=hi->hi<=n->(∀i,i<lo->b i=true)->(∀i,hi<=i->i<n->b i=false)->∀{f:Nat->Option (Option Nat) × Nat × Nat->StateT N0 Sem (ForInStep (Option (Option Nat) × Nat × Nat))} {R:Option (Option Nat) × Nat × Nat->N0->Prop},
   (∀x lo hi R,lo ≥ hi->R (.done (none,lo,hi)) st->Gv prog w A E s (f x (none,lo,hi)) st R) →
   (∀x lo hi R,lo<hi->hi<=n->R (if b (lo+(hi - lo) / 2)=true then .yield (none,lo+(hi - lo) / 2+1,hi) else .yield (none,lo,lo+(hi - lo) / 2)) st->Gv prog w A E s (f x (none,lo,hi)) st R) →
   (∀k lo,k<=n->(∀i,i<k->b i=true)->(∀i,k<=i->i<n->b i=false)->R (none,lo,k) st) →
   Gv prog w A E s (forIn [:n] (none,lo,hi) f) st R:=by
  intro lo hi h1 h2 h3 h4 f R f1 f2 hR
  refine Gv.range (fun m z st'=>st'=st/\∃lo hi,z=(none,lo,hi)/\lo<=hi/\hi<=n/\hi - lo<=m/\(∀i,i<lo->b i=true)/\(∀i,hi<=i->i<n->b i=false)) ⟨rfl,lo,hi,rfl,h1,h2,by lia,h3,h4⟩ (fun x m z st' hz=>?_) (fun z st' hz=>?_)
  ·obtain⟨rfl,lo,hi,rfl,g1,g2,g3,g4,g5⟩:=hz
   by_cases hl:lo ≥ hi
   ·refine f1 x lo hi _ hl ?_
    have:lo=hi:=by lia
    simp_all
   ·refine f2 x lo hi _ (by lia) g2 ?_
    cases e:b (lo+(hi - lo) / 2) with
    | true=>
     rw[if_pos rfl]
     refine⟨rfl,_,_,rfl,by lia,g2,by lia,fun i hi'=>?_,g5⟩
     grind
    | false=>
     rw[if_neg (by decide)]
     refine⟨rfl,_,_,rfl,by lia,by lia,by lia,g4,fun i hi' hn'=>?_⟩
     grind
  ·obtain⟨rfl,lo,hi,rfl,g1,g2,g3,g4,g5⟩:=hz
   have:lo=hi:=by lia
   simp_all
 with_unfolding_all refine Gv.bind ?_
 refine B hh ?_
 dsimp only
 cases e0:b hint with
 | true=>
  rw[if_pos rfl]
  refine Gv.bind (Gv.mono (Q:=fun z st'=>st'=st/\∃la ofs,z=(none,la,ofs)/\la<ofs/\hint+la<n/\b (hint+la)=true/\(n - hint<=ofs\/(ofs<n - hint/\b (hint+ofs)=false))) (Gv.range (fun m z st'=>st'=st/\∃la ofs,z=(none,la,ofs)/\la<ofs/\n+1<=ofs+m/\hint+la<n/\b (hint+la)=true) ⟨rfl,0,1,rfl,by lia,by lia,by lia,e0⟩ (fun x m z st' hz=>?_) (fun z st' hz=>?_)) (fun z st' hz=>?_))
  ·obtain⟨rfl,la,ofs,rfl,g1,g2,g3,g4⟩:=hz
   dsimp only
   by_cases hl:ofs ≥ n - hint
   ·rw[if_pos hl]
    exact Gv.pure ⟨rfl,la,ofs,rfl,g1,g3,g4,.inl hl⟩
   ·rw[if_neg hl]
    refine Gv.bind (B (by lia) ?_)
    dsimp only
    cases e:b (hint+ofs) with
    | true=>exact Gv.pure ⟨rfl,ofs,2*ofs+1,rfl,by lia,by lia,by lia,e⟩
    | false=>exact Gv.pure ⟨rfl,la,ofs,rfl,g1,g3,g4,.inr ⟨by lia,e⟩⟩
  ·obtain⟨rfl,la,ofs,rfl,g1,g2,g3,g4⟩:=hz
   grind
  ·obtain⟨rfl,la,ofs,rfl,g1,g3,g4,g5⟩:=hz
   dsimp only
   refine Gv.bind (L3 (hint+la+1) (hint+min ofs (n - hint)) ?_ ?_ ?_ ?_ (fun x lo hi R hl hR=>?_) (fun x lo hi R hl hn' hR=>?_) fun k lo g1 g2 g3=>Gv.pure (h k g1 g2 g3))
   ·lia
   ·lia
   ·grind
   ·grind
   ·dsimp only;rw[if_pos hl];exact Gv.pure hR
   ·dsimp only;rw[if_neg (by lia)]
    refine Gv.bind (B (by lia) ?_)
    dsimp only
    cases e:b (lo+(hi - lo) / 2) with
    | true=>rw[e,if_pos rfl] at hR;exact Gv.pure hR
    | false=>rw[e,if_neg (by decide)] at hR;exact Gv.pure hR
 | false=>
  rw[if_neg (by decide)]
  refine Gv.bind (Gv.mono (Q:=fun z st'=>st'=st/\∃la ofs,z=(none,la,ofs)/\la<ofs/\la<=hint/\b (hint - la)=false/\(hint+1<=ofs\/(ofs<hint+1/\b (hint - ofs)=true))) (Gv.range (fun m z st'=>st'=st/\∃la ofs,z=(none,la,ofs)/\la<ofs/\n+1<=ofs+m/\la<=hint/\b (hint - la)=false) ⟨rfl,0,1,rfl,by lia,by lia,by lia,e0⟩ (fun x m z st' hz=>?_) (fun z st' hz=>?_)) (fun z st' hz=>?_))
  ·obtain⟨rfl,la,ofs,rfl,g1,g2,g3,g4⟩:=hz
   dsimp only
   by_cases hl:ofs ≥ hint+1
   ·rw[if_pos hl]
    exact Gv.pure ⟨rfl,la,ofs,rfl,g1,g3,g4,.inl hl⟩
   ·rw[if_neg hl]
    refine Gv.bind (B (by lia) ?_)
    dsimp only
    cases e:b (hint - ofs) with
    | true=>exact Gv.pure ⟨rfl,la,ofs,rfl,g1,g3,g4,.inr ⟨by lia,e⟩⟩
    | false=>exact Gv.pure ⟨rfl,ofs,2*ofs+1,rfl,by lia,by lia,by lia,e⟩
  ·obtain⟨rfl,la,ofs,rfl,g1,g2,g3,g4⟩:=hz
   grind
  ·obtain⟨rfl,la,ofs,rfl,g1,g3,g4,g5⟩:=hz
   dsimp only
   refine Gv.bind (L3 (hint+1 - min ofs (hint+1)) (hint - la) ?_ ?_ ?_ ?_ (fun x lo hi R hl hR=>?_) (fun x lo hi R hl hn' hR=>?_) fun k lo g1 g2 g3=>Gv.pure (h k g1 g2 g3))
   ·lia
   ·lia
   ·grind
   ·grind
   ·dsimp only;rw[if_pos hl];exact Gv.pure hR
   ·dsimp only;rw[if_neg (by lia)]
    refine Gv.bind (B (by lia) ?_)
    dsimp only
    cases e:b (lo+(hi - lo) / 2) with
    | true=>rw[e,if_pos rfl] at hR;exact Gv.pure hR
    | false=>rw[e,if_neg (by decide)] at hR;exact Gv.pure hR
end
section
variable {kk:Of->Int}{a b out:Array Of}{ia ib:Nat}
noncomputable def Srt (kk:Of->Int) (l:List Of):Prop:=l.Pairwise fun x y=>kk x<kk y
structure Mg (kk) (a b out:Array Of) (ia ib):Prop where
 perm:out.toList.Perm (a.toList.take ia++b.toList.take ib)
 srt:Srt kk out.toList
 la:∀x∈out.toList,∀y∈a.toList.drop ia,kk x<kk y
 lb:∀x∈out.toList,∀y∈b.toList.drop ib,kk x<kk y
theorem Mg.symm (m:Mg kk a b out ia ib):Mg kk b a out ib ia:=⟨m.perm.trans List.perm_append_comm,m.srt,m.lb,m.la⟩
theorem Mg.zero:Mg kk a b #[] 0 0:=⟨by simp,Rg,fun x hx=>by grind,fun x hx=>by grind⟩
theorem BL {l:List Of}{h:j<l.length} (hij:i<=j):l[j]∈l.drop i:=by
 have e:l[j]=(l.drop i)[j - i]'(by grind):=by simp_all
 grind
theorem wu (s:Srt kk l) (h):∀y∈l.drop (j+1),kk l[j]<kk y:=by
 have e:=Oh h
 have s2:Srt kk (l.drop j):=Sa.sublist (List.drop_sublist _ _) s
 rw[e] at s2
 exact fun y hy=>(Ou.mp s2).1 y hy
theorem Mg.jU (m:Mg kk a b out ia ib) (sb:Srt kk b.toList) (hi) (hd:∀y∈a.toList.drop ia,kk b[ib]<kk y):Mg kk a b (out.push b[ib]) ia (ib+1):=by
 have hl:ib<b.toList.length:=by omega
 have eb:b.toList[ib]=b[ib]:=by simp
 have bm:b[ib]∈b.toList.drop ib:=by rw[<- eb];exact BL (NC _)
 have es:(out.push b[ib]).toList=out.toList++[b[ib]]:=by simp
 refine⟨?_,?_,?_,?_⟩
 ·rw[es,P6 hl,<- Oj]
  exact m.perm.append_right _
 ·rw[es]
  exact N9.mpr ⟨m.srt,OS _ _,fun x hx y hy=>by rw[NY] at hy;subst hy;exact m.lb x hx _ bm⟩
 ·intro x hx y hy
  rw[es] at hx
  rcases Oe.mp hx with hx | hx
  ·exact m.la x hx y hy
  simp_all
 ·intro x hx y hy
  rw[es] at hx
  rcases Oe.mp hx with hx | hx
  ·exact m.lb x hx y (by rw[<- QK] at hy;grind)
  ·rw[NY] at hx;subst hx
   have:=wu sb hl y hy
   simp_all
theorem Mg.mB (m:Mg kk a b out ia ib) (sa:Srt kk a.toList) (hi) (hd:∀y∈b.toList.drop ib,kk a[ia]<kk y):Mg kk a b (out.push a[ia]) (ia+1) ib:=(m.symm.jU sa hi hd).symm
theorem Mg.gz (m:Mg kk a b out ia ib) (sb:Srt kk b.toList):∀(k:Nat),ib+k<=b.size->(∀j,(hj:j<b.size)->ib<=j->j<ib+k->∀y∈a.toList.drop ia,kk b[j]<kk y)->Mg kk a b (out++b.extract ib (ib+k)) ia (ib+k)
 | 0,_,_=>by
  have e:b.extract ib (ib+0) = #[]:=by simp;lia
  rw[e];simpa using m
 | k+1,hk,hd=>by
  have ih:=Mg.gz m sb k (by lia) (fun j hj h1 h2=>hd j hj h1 (by lia))
  have e:out++b.extract ib (ib+(k+1))=(out++b.extract ib (ib+k)).push b[ib+k]:=by
   rw[<- Array.append_push]
   congr 1
   rw[Array.push_extract_getElem (by lia) ]
   congr 1
   lia
  rw[e]
  exact ih.jU sb (by lia) (hd (ib+k) (by lia) (by lia) (by lia))
theorem Mg.l8 (m:Mg kk a b out ia ib) (sa:Srt kk a.toList) (k) (hk:ia+k<=a.size) (hd:∀j,(hj:j<a.size)->ia<=j->j<ia+k->∀y∈b.toList.drop ib,kk a[j]<kk y):Mg kk a b (out++a.extract ia (ia+k)) (ia+k) ib:=(m.symm.gz sa k hk hd).symm
noncomputable def gM (kk:Of->Int) (a b r:Array Of):Prop:=r.toList.Perm (a.toList++b.toList)/\Srt kk r.toList
theorem Mg.fin (m:Mg kk a b out a.size b.size):gM kk a b out:=⟨by have:=m.perm;rwa [OX (by simp),OX (by simp)] at this,m.srt⟩
theorem Mg.mM (m:Mg kk a b out ia b.size) (sa:Srt kk a.toList) (hi:ia<=a.size):gM kk a b (out++a.extract ia a.size++b.extract b.size b.size):=by
 have e:b.extract b.size b.size = #[]:=by simp
 rw[e]
 have:=m.l8 sa (a.size - ia) (by lia) (fun j hj _ _ y hy=>by rw[PQ (by simp)] at hy;cases hy)
 rw[show ia+(a.size - ia)=a.size by lia] at this
 exact this.fin
theorem Mg.k4 (m:Mg kk a b out a.size ib) (sb:Srt kk b.toList) (hi:ib<=b.size):gM kk a b (out++a.extract a.size a.size++b.extract ib b.size):=by
 have e:a.extract a.size a.size = #[]:=by simp
 rw[e]
 have:=m.gz sb (b.size - ib) (by lia) (fun j hj _ _ y hy=>by rw[PQ (by simp)] at hy;cases hy)
 rw[show ib+(b.size - ib)=b.size by lia] at this
 exact this.fin
theorem Mg.last (m:Mg kk a b out ia ib) (sa:Srt kk a.toList) (sb:Srt kk b.toList) (hi:ia+1=a.size) (hb:ib<=b.size) (hd:∀y∈b.toList,kk y<kk a[ia]):gM kk a b (out++b.extract ib b.size++a.extract ia a.size):=by
 have hla:a.toList.drop ia=[a[ia]]:=by
  have hl:ia<a.toList.length:=by simp;lia
  rw[Oh hl]
  have:a.toList.drop (ia+1)=[]:=by rw[List.drop_eq_nil_iff];simp;lia
  rw[this];simp
 have m1:=m.gz sb (b.size - ib) (by lia) (fun j hj _ _ y hy=>by
  rw[hla,NY] at hy;subst hy
  exact hd _ (by simp))
 rw[show ib+(b.size - ib)=b.size by lia] at m1
 have m2:=m1.l8 sa (a.size - ia) (by lia) (fun j hj _ _ y hy=>by rw[PQ (by simp)] at hy;cases hy)
 rw[show ia+(a.size - ia)=a.size by lia] at m2
 exact m2.fin
theorem heads (sa:Srt kk a.toList) (hi) (hv:v<kk a[ia]):∀y∈a.toList.drop ia,v<kk y:=by
 have hl:ia<a.toList.length:=by omega
 intro y hy
 rw[Oh hl] at hy
 rcases NQ.mp hy with rfl | hy
 ·simp_all
 ·have:=wu sa hl y hy
  grind
theorem nY (sa:Srt kk a.toList) (hij:i<j) (hj:j<a.size):kk a[i]<kk a[j]:=by
 have:=NX.mp sa i j (by grind) (by omega) hij
 simp_all
theorem yI (h):kAt kk a i=kk a[i]:=Ct (by simp[h])
end
section
variable {prog:NW}{w:Oo}{A:Om}{E:NB->NF->Prop}{s:NF}{κ:Qz}{P:Of->Prop}{kk:Of->Int}{α:Type}{st:N0}{Q:α->N0->Prop}
theorem bB [Decidable c]{x y:StateT N0 Sem α} (h1:c->Gv prog w A E s x st Q) (h2:¬ c->Gv prog w A E s y st Q):Gv prog w A E s (if c then x else y) st Q:=by
 grind
structure fh (st st':N0):Prop where
 kind:kindOf st'=kindOf st
 arr:arrOf st'=arrOf st
 pend:pendingOf st'=pendingOf st
 fail:failedOf st'=failedOf st
theorem fh.refl:fh st st:=⟨rfl,rfl,rfl,rfl⟩
theorem fh.trans (h:fh a b) (g:fh b c):fh a c:=⟨g.1.trans h.1,g.2.trans h.2,g.3.trans h.3,g.4.trans h.4⟩
end
section
variable {prog:NW}{w:Oo}{A:Om}{E:NB->NF->Prop}{s:NF}{κ:Qz}{P:Of->Prop}{kk:Of->Int}
structure Two (P:Of->Prop) (kk) (a b:Array Of):Prop where
 pa:∀x∈a,P x
 pb:∀x∈b,P x
 sa:Srt kk a.toList
 sb:Srt kk b.toList
 dj:∀x∈a.toList,∀y∈b.toList,kk x≠kk y
theorem Two.ne (t:Two P kk a b) (hi:i<a.size) (hj:j<b.size):kk a[i]≠kk b[j]:=t.dj _ (by simp) _ (by simp)
theorem uj {st:N0} (c:Cmp prog w A s κ P kk) (pa:∀x∈a,P x) (hy:P key) (hk:kindOf st=κ) (hn:i+n<=a.size) (hh:hint<n)
  (sa:∀j m,(hm:m<a.size)->i<=j->(hj:j<m)->m<i+n->kk (a[j]'(by lia))<kk a[m]) (nk:∀j,(hj:j<a.size)->i<=j->j<i+n->kk a[j]≠kk key)
  (h:∀k,k<=n->(∀j,(hj:j<a.size)->i<=j->j<i+k->kk a[j]<kk key)->(∀j,(hj:j<a.size)->i+k<=j->j<i+n->kk key<kk a[j])->Q (some k) st):Gv prog w A E s (sM false key a i n hint) st Q:=by
 have bv:∀m,(hm:i+m<a.size)->m<n->bey kk false key a i m=decide (kk a[i+m]<kk key):=fun m hm hmn=>by
  unfold bey
  rw[yI hm]
  grind
 refine rN c pa hy hk hn hh (fun m n hmn hn' e=>?_) (fun k hk1 e1 e2=>?_)
 ·rw[bv n (by lia) (by lia),decide_eq_true_eq] at e
  rw[bv m (by lia) (by lia),decide_eq_true_eq]
  rcases Pe hmn with z | z
  ·have:=sa (i+m) (i+n) (by lia) (by lia) (by lia) (by lia);lia
  simp_all
 ·refine h k hk1 (fun j hj h1 h2=>?_) (fun j hj h1 h2=>?_)
  ·have:=e1 (j - i) (by lia)
   rw[bv (j - i) (by lia) (by lia),decide_eq_true_eq] at this
   simp_all
  ·have:=e2 (j - i) (by lia) (by lia)
   rw[bv (j - i) (by lia) (by lia),decide_eq_false_iff_not] at this
   have ne:=nk j hj (by lia) h2
   have:¬ kk a[j]<kk key:=by simpa [show i+(j - i)=j by lia] using this
   lia
theorem sP {st:N0} (c:Cmp prog w A s κ P kk) (pa:∀x∈a,P x) (hy:P key) (hk:kindOf st=κ) (hn:i+n<=a.size) (hh:hint<n)
  (sa:∀j m,(hm:m<a.size)->i<=j->(hj:j<m)->m<i+n->kk (a[j]'(by lia))<kk a[m])
  (h:∀k,k<=n->(∀j,(hj:j<a.size)->i<=j->j<i+k->kk a[j]<kk key)->(∀j,(hj:j<a.size)->i+k<=j->j<i+n->¬ kk a[j]<kk key)->Q (some k) st):Gv prog w A E s (sM true key a i n hint) st Q:=by
 have bv:∀m,(hm:i+m<a.size)->bey kk true key a i m=decide (kk a[i+m]<kk key):=fun m hm=>by
  unfold bey
  rw[yI hm];rfl
 refine rN c pa hy hk hn hh (fun m n hmn hn' e=>?_) (fun k hk1 e1 e2=>?_)
 ·rw[bv n (by lia),decide_eq_true_eq] at e
  rw[bv m (by lia),decide_eq_true_eq]
  rcases Pe hmn with z | z
  ·have:=sa (i+m) (i+n) (by lia) (by lia) (by lia) (by lia);lia
  simp_all
 ·refine h k hk1 (fun j hj h1 h2=>?_) (fun j hj h1 h2=>?_)
  ·have:=e1 (j - i) (by lia)
   simp_all
  ·have:=e2 (j - i) (by lia) (by lia)
   rw[bv (j - i) (by lia),decide_eq_false_iff_not] at this
   simpa [show i+(j - i)=j by lia] using this
end
section
variable {prog:NW}{w:Oo}{A:Om}{E:NB->NF->Prop}{s:NF}{κ:Qz}{P:Of->Prop}{kk:Of->Int}
structure Mid (kk) (a b out) (ia ib):Prop where
 m:Mg kk a b out ia ib
 ha:ia+1<a.size
 hb:ib<b.size
theorem Gv.modS {st:N0} (hf:fh st (f st)) (h:∀st',fh st st'->Q ⟨⟩ st'):Gv prog w A E s (_root_.modify f:StateT N0 Sem PUnit) st Q:=Gv.modify (h _ hf)
theorem Cd {c:Prop} [Decidable c]{x y:StateT N0 Sem α}{st:N0}{Q:α->N0->Prop} (h:Gv prog w A E s x st Q/\Gv prog w A E s y st Q):Gv prog w A E s (if c then x else y) st Q:=bB (fun _=>h.1) (fun _=>h.2)
theorem Hg {c:Prop} [Decidable c]{x y:StateT N0 Sem α}{st:N0}{Q:α->N0->Prop} (h2:¬ c->Gv prog w A E s y st Q) (h1:c->Gv prog w A E s x st Q):Gv prog w A E s (if c then x else y) st Q:=bB h1 h2
theorem zh {R:Array Of->Nat->StateT N0 Sem α}{F:Array Of->Nat->Prop}{st:N0} (use:(∀o i,F o i->Gv prog w A E s (R o i) st Q)->Gv prog w A E s x st Q) (h:∀o i,F o i->Gv prog w A E s (R o i) st Q):Gv prog w A E s x st Q:=use h
theorem xZ {P:Nat->Prop} (h:∀g,P g) (hy:(∀g,P g)->Y) (g):P g/\Y:=⟨h g,hy h⟩
theorem get_some {a:Array Of} (h:i<a.size):a[i]?=some a[i]:=by simp[h]
theorem xT {a b:Array Of}{st:N0}{Q:Array Of->N0->Prop} (c:Cmp prog w A s κ P kk) (t:Two P kk a b) (hk:kindOf st=κ) (ha:1<=a.size) (hb:1<=b.size) (h0:kk b[0]<kk a[0]) (hl:∀y∈b.toList,kk y<kk a[a.size - 1])
  (h:∀r st',gM kk a b r->fh st st'->Q r st'):Gv prog w A E s (CK a b) st Q:=by
 have m1:Mg kk a b #[b[0]] 0 1:=by
  have:=(Mg.zero (kk:=kk) (a:=a) (b:=b)).jU t.sb (by lia) (heads t.sa (by lia) h0)
  simpa using this
 have lastOk:∀{out:Array Of} {ia ib:Nat},Mg kk a b out ia ib->ia+1=a.size->ib<=b.size->gM kk a b (out++b.extract ib b.size++a.extract ia a.size):=fun{out ia ib} m e hb'=>m.last t.sa t.sb e hb' (fun y hy=>by have:=hl y hy;simpa [show a.size - 1=ia by lia] using this)
 have mM:∀{out:Array Of} {ia ib:Nat},Mg kk a b out ia ib->ia<=a.size->ib=b.size->gM kk a b (out++a.extract ia a.size++b.extract ib b.size):=fun{out ia ib} m e hb'=>by subst hb';exact m.mM t.sa e
 with_unfolding_all refine Gv.bind (Gv.rule ?_)
 dsimp only
 refine Gv.bind (Gv.elem (get_some (by lia)) ?_)
 refine bB (fun e=>Gv.pure (h _ _ (mM m1 (by lia) (by simpa using e)) fh.refl)) (fun e1=>?_)
 refine bB (fun e=>Gv.pure (h _ _ (lastOk m1 (by simpa using e) (by lia)) fh.refl)) (fun e2=>?_)
 have z1:1<b.size:=by have:¬ 1=b.size:=by simpa using e1
                      lia
 have z2:1<a.size:=by have:¬ 0+1=a.size:=by simpa using e2
                      lia
 refine Gv.bind (Gv.get ?_)
 refine Gv.bind (Gv.mono (Q:=fun z st'=>fh st st'/\∃r,z.1=some r/\gM kk a b r) (Gv.range (fun m z st'=>fh st st'/\∃out ia ib mg,z=(none,out,ia,ib,mg)/\Mid kk a b out ia ib/\a.size+b.size<ia+ib+m) ⟨fh.refl,_,_,_,_,rfl,⟨m1,by lia,by lia⟩,by lia⟩ (fun x m z st' hz=>?_) (fun z st' hz=>?_)) (fun z st' hz=>?_))
 ·obtain⟨sm,out,ia,ib,mg,rfl,md,pr⟩:=hz
  have hk':kindOf st'=κ:=sm.kind.trans hk
  dsimp only
  refine Gv.bind (Gv.mono (Q:=fun z st''=>fh st st''/\((∃r o i j p q,z=(some r,o,i,j,p,q)/\gM kk a b r)\/∃o i j p q,z=(none,o,i,j,p,q)/\Mid kk a b o i j/\ia+ib<i+j)) (Gv.range (fun m' z st''=>fh st st''/\∃o i j p q,z=(none,o,i,j,p,q)/\Mid kk a b o i j/\ia+ib<=i+j/\ia+ib+(a.size+b.size)<=i+j+m') ⟨sm,_,_,_,_,_,rfl,md,by lia,by lia⟩ (fun x m' z st'' hz=>?_) (fun z st'' hz=>?_)) (fun z st'' hz=>?_))
  ·obtain⟨sm2,o,i,j,p,q,rfl,md2,pr0,pr2⟩:=hz
   clear pr z1 z2 e1 e2 m1 h0 hl ha hb
   have hk2:kindOf st''=κ:=sm2.kind.trans hk
   have ha2:=md2.ha
   have hi:i<a.size:=by lia
   have hj:=md2.hb
   dsimp only
   refine Gv.bind (Gv.elem (get_some hj) ?_)
   refine Gv.bind (Gv.elem (get_some hi) ?_)
   refine Gv.bind (Gv.ltC c (t.pb _ (N8 hj)) (t.pa _ (N8 hi)) hk2 ?_)
   dsimp only
   by_cases lt:kk b[j]<kk a[i]
   ·rw[decide_eq_true lt,if_pos rfl]
    have m3:=md2.m.jU t.sb hj (heads t.sa hi lt)
    refine Gv.bind (Gv.elem (get_some hj) ?_)
    refine bB (fun e=>Gv.pure ⟨sm2,.inl ⟨_,_,_,_,_,_,rfl,mM m3 (by lia) (by simpa using e)⟩⟩) (fun e=>?_)
    have e':¬ j+1=b.size:=by simpa using e
    exact bB (fun _=>Gv.pure ⟨sm2,.inr ⟨_,_,_,_,_,rfl,⟨m3,by lia,by lia⟩,by lia⟩⟩) (fun _=>Gv.pure ⟨sm2,_,_,_,_,_,rfl,⟨m3,by lia,by lia⟩,by lia,by lia⟩)
   ·have gt:kk a[i]<kk b[j]:=by have:=t.ne hi hj;lia
    rw[decide_eq_false lt,if_neg (by decide)]
    have m3:=md2.m.mB t.sa hi (heads t.sb hj gt)
    refine Gv.bind (Gv.elem (get_some hi) ?_)
    refine bB (fun e=>Gv.pure ⟨sm2,.inl ⟨_,_,_,_,_,_,rfl,lastOk m3 (by simpa using e) (by lia)⟩⟩) (fun e=>?_)
    have e':¬ i+1+1=a.size:=by simpa using e
    exact bB (fun _=>Gv.pure ⟨sm2,.inr ⟨_,_,_,_,_,rfl,⟨m3,by lia,hj⟩,by lia⟩⟩) (fun _=>Gv.pure ⟨sm2,_,_,_,_,_,rfl,⟨m3,by lia,hj⟩,by lia,by lia⟩)
  ·obtain⟨sm2,o,i,j,p,q,rfl,md2,pr0,pr2⟩:=hz
   exact⟨sm2,.inr ⟨_,_,_,_,_,rfl,md2,by lia⟩⟩
  ·obtain⟨sm2,⟨r,o,i,j,p,q,rfl,fr⟩ | ⟨o,i,j,p,q,rfl,md2,pr2⟩⟩:=hz
   ·exact Gv.pure ⟨sm2,r,rfl,fr⟩
   ·dsimp only
    refine Gv.bind (Gv.rule ?_)
    refine Gv.bind (Gv.mono (Q:=fun z st4=>fh st st4/\((∃r o i j g p q,z=(some r,o,i,j,g,p,q)/\gM kk a b r)\/∃o i j g p q,z=(none,o,i,j,g,p,q)/\Mid kk a b o i j/\ia+ib<i+j)) (Gv.range (fun m' z st4=>fh st st4/\∃o i j g p q,z=(none,o,i,j,g,p,q)/\Mid kk a b o i j/\ia+ib<i+j) ⟨sm2,_,_,_,_,_,_,rfl,md2,pr2⟩ (fun x m' z st4 hz=>?_) (fun z st4 hz=>?_)) (fun z st4 hz=>?_))
    ·obtain⟨sm4,o,i,j,g,p,q,rfl,md4,pr4⟩:=hz
     clear pr pr2 md md2 z1 z2 e1 e2 m1 h0 hl ha hb
     have ha4:=md4.ha
     have hj:=md4.hb
     have hi:i<a.size:=by lia
     dsimp only
     refine Cd ?_
     generalize g - 1=g1
     revert g1
     refine xZ (fun g'=>?_) (fun f=>f g)
     ·with_unfolding_all refine Gv.bind (Gv.modS ⟨rfl,rfl,rfl,rfl⟩ (fun st3 sm3'=>?_))
      have sm3:=sm4.trans sm3'
      have hk3:kindOf st3=κ:=sm3.kind.trans hk
      refine Gv.bind (Gv.elem (get_some hj) ?_)
      refine Gv.bind (uj c t.pa (t.pb _ (N8 hj)) hk3 (show i+(a.size - i)<=a.size by lia) (by lia) (fun p q hq _ hpq _=>nY t.sa hpq hq) (fun p hp _ _=>t.ne hp hj) (fun k hk1 e1 e2=>?_))
      dsimp only
      apply zh (F:=fun o' I=>Mg kk a b o' I j/\i<=I/\I+1<a.size/\∃hI:I<a.size,kk b[j]<kk a[I])
      ·intro key
       refine Hg (fun k0=>?_) (fun k0=>?_)
       ·generalize ho:o=o1
        generalize hi':i=i1
        refine key o1 i1 ?_
        subst ho hi'
        exact⟨md4.m,by lia,ha4,hi,e2 i hi (by lia) (by lia)⟩
       have m3:=md4.m.l8 t.sa k (by lia) (fun p hp h1 h2=>heads t.sb hj (e1 p hp h1 h2))
       refine bB (fun e=>Gv.pure ⟨sm3,.inl ⟨_,_,_,_,_,_,_,rfl,lastOk m3 (by simpa using e) (by lia)⟩⟩) (fun ne1=>?_)
       refine bB (fun e=>?_) (fun ne2=>?_)
       ·have e':i+k=a.size:=by simpa using e
        have m3':=m3
        rw[e'] at m3'
        refine Gv.pure ⟨sm3,.inl ⟨_,_,_,_,_,_,_,rfl,?_⟩⟩
        rw[e']
        exact m3'.k4 t.sb (by lia)
       ·have ne1':¬ i+k+1=a.size:=by simpa using ne1
        have ne2':¬ i+k=a.size:=by simpa using ne2
        have hI:i+k<a.size:=by lia
        have gtI:kk b[j]<kk a[i+k]:=e2 (i+k) hI (by lia) (by lia)
        exact key _ _ ⟨m3,by lia,by lia,hI,gtI⟩
      ·rintro o' I ⟨m3,iI,ha5,hI,gtI⟩
       refine Gv.bind (Gv.elem (get_some hj) ?_)
       have m4:=m3.jU t.sb hj (heads t.sa hI gtI)
       refine bB (fun e=>Gv.pure ⟨sm3,.inl ⟨_,_,_,_,_,_,_,rfl,mM m4 (by lia) (by simpa using e)⟩⟩) (fun ne3=>?_)
       have ne3':¬ j+1=b.size:=by simpa using ne3
       refine Gv.bind (Gv.elem (get_some hI) ?_)
       refine Gv.bind (sP c t.pb (t.pa _ (N8 hI)) hk3 (show j+1+(b.size - (j+1))<=b.size by lia) (by lia) (fun p q hq _ hpq _=>nY t.sb hpq hq) (fun k1 hk1 f1 f2=>?_))
       dsimp only
       by_cases k10:k1 > 0
       ·rw[if_pos k10]
        have m5:=m4.gz t.sb k1 (by lia) (fun q hq h1 h2=>heads t.sa hI (f1 q hq h1 h2))
        refine bB (fun e=>Gv.pure ⟨sm3,.inl ⟨_,_,_,_,_,_,_,rfl,mM m5 (by lia) (by simpa using e)⟩⟩) (fun ne4=>?_)
        have ne4':¬ j+1+k1=b.size:=by simpa using ne4
        have hJ:j+1+k1<b.size:=by lia
        have ltJ:kk a[I]<kk b[j+1+k1]:=by have:=f2 _ hJ (by lia) (by lia);have:=t.ne hI hJ;lia
        refine Gv.bind (Gv.elem (get_some hI) ?_)
        have m6:=m5.mB t.sa hI (heads t.sb hJ ltJ)
        refine bB (fun e=>Gv.pure ⟨sm3,.inl ⟨_,_,_,_,_,_,_,rfl,lastOk m6 (by simpa using e) (by lia)⟩⟩) (fun ne5=>?_)
        have ne5':¬ I+1+1=a.size:=by simpa using ne5
        exact bB (fun _=>Gv.pure ⟨sm3,.inr ⟨_,_,_,_,_,_,rfl,⟨m6,by lia,hJ⟩,by lia⟩⟩) (fun _=>Gv.pure ⟨sm3,_,_,_,_,_,_,rfl,⟨m6,by lia,hJ⟩,by lia⟩)
       ·rw[if_neg k10]
        have m5:=m4
        have hJ:j+1<b.size:=by lia
        have ltJ:kk a[I]<kk b[j+1]:=by have:=f2 _ hJ (by lia) (by lia);have:=t.ne hI hJ;lia
        refine Gv.bind (Gv.elem (get_some hI) ?_)
        have m6:=m5.mB t.sa hI (heads t.sb hJ ltJ)
        refine bB (fun e=>Gv.pure ⟨sm3,.inl ⟨_,_,_,_,_,_,_,rfl,lastOk m6 (by simpa using e) (by lia)⟩⟩) (fun ne5=>?_)
        have ne5':¬ I+1+1=a.size:=by simpa using ne5
        exact bB (fun _=>Gv.pure ⟨sm3,.inr ⟨_,_,_,_,_,_,rfl,⟨m6,by lia,hJ⟩,by lia⟩⟩) (fun _=>Gv.pure ⟨sm3,_,_,_,_,_,_,rfl,⟨m6,by lia,hJ⟩,by lia⟩)
    ·obtain⟨sm4,o,i,j,g,p,q,rfl,md4,pr4⟩:=hz
     exact⟨sm4,.inr ⟨_,_,_,_,_,_,rfl,md4,pr4⟩⟩
    ·obtain⟨sm4,⟨r,o,i,j,g,p,q,rfl,fr⟩ | ⟨o,i,j,g,p,q,rfl,md4,pr4⟩⟩:=hz
     ·exact Gv.pure ⟨sm4,r,rfl,fr⟩
     ·dsimp only
      with_unfolding_all refine Gv.bind (Gv.modS ⟨rfl,rfl,rfl,rfl⟩ (fun st3 sm3'=>?_))
      exact Gv.pure ⟨sm4.trans sm3',_,_,_,_,rfl,md4,by lia⟩
 ·obtain⟨sm,out,ia,ib,mg,rfl,md,pr⟩:=hz
  have:=md.ha
  have:=md.hb
  lia
 ·obtain⟨sm,r,e,fr⟩:=hz
  rw[e]
  exact Gv.pure (h r st' fr sm)
end
section
variable {kk:Of->Int}{a b out:Array Of}{na nb:Nat}
structure Mh (kk:Of->Int) (a b out:Array Of) (na nb):Prop where
 perm:out.toList.Perm (a.toList.drop na++b.toList.drop nb)
 srt:out.toList.Pairwise fun x y=>kk y<kk x
 la:∀x∈out.toList,∀y∈a.toList.take na,kk y<kk x
 lb:∀x∈out.toList,∀y∈b.toList.take nb,kk y<kk x
theorem Mh.symm (m:Mh kk a b out na nb):Mh kk b a out nb na:=⟨m.perm.trans List.perm_append_comm,m.srt,m.lb,m.la⟩
theorem Mh.zero:Mh kk a b #[] a.size b.size:=⟨by simp,Rg,fun x hx=>by grind,fun x hx=>by grind⟩
theorem yQ {l:List Of} (h):l.take (n+1)=l.take n++[l[n]]:=P6 h
theorem Mh.jU (m:Mh kk a b out na (nb+1)) (sb:Srt kk b.toList) (hi) (hd:∀y∈a.toList.take na,kk y<kk b[nb]):Mh kk a b (out.push b[nb]) na nb:=by
 have hl:nb<b.toList.length:=by omega
 have eb:b.toList[nb]=b[nb]:=by simp
 have et:=yQ hl
 have bm:b[nb]∈b.toList.take (nb+1):=by simp_all
 have es:(out.push b[nb]).toList=out.toList++[b[nb]]:=by simp
 refine⟨?_,?_,?_,?_⟩
 ·rw[es,Oh hl]
  refine(QG _ _).trans ?_
  refine Sw.trans ?_ List.perm_middle.symm
  exact m.perm.cons _
 ·rw[es]
  exact N9.mpr ⟨m.srt,OS _ _,fun x hx y hy=>by rw[NY] at hy;subst hy;exact m.lb x hx _ bm⟩
 ·intro x hx y hy
  rw[es] at hx
  rcases Oe.mp hx with hx | hx
  ·exact m.la x hx y hy
  simp_all
 ·intro x hx y hy
  rw[es] at hx
  rcases Oe.mp hx with hx | hx
  ·exact m.lb x hx y (by simp_all)
  ·rw[NY] at hx;subst hx
   obtain⟨i,hi',rfl⟩:=Ry.mp hy
   rw[Oa] at hi'
   rw[Ri]
   have:=NX.mp sb i nb (by lia) hl (by lia)
   simp_all
theorem Mh.mB (m:Mh kk a b out (na+1) nb) (sa:Srt kk a.toList) (hi) (hd:∀y∈b.toList.take nb,kk y<kk a[na]):Mh kk a b (out.push a[na]) na nb:=(m.symm.jU sa hi hd).symm
theorem Mh.gz (sb:Srt kk b.toList):∀(k nb:Nat){out:Array Of},Mh kk a b out na (nb+k)->nb+k<=b.size->(∀j,(hj:j<b.size)->nb<=j->j<nb+k->∀y∈a.toList.take na,kk y<kk b[j])->Mh kk a b (out++(b.extract nb (nb+k)).reverse) na nb
 | 0,nb,out,m,_,_=>by
  have e:b.extract nb (nb+0) = #[]:=by simp;lia
  rw[e];simpa using m
 | k+1,nb,out,m,hk,hd=>by
  have ih:=Mh.gz sb k (nb+1) (by rw[show nb+1+k=nb+(k+1) by lia];exact m) (by lia) (fun j hj h1 h2=>hd j hj (by lia) (by lia))
  have e:out++(b.extract nb (nb+(k+1))).reverse=(out++(b.extract (nb+1) (nb+1+k)).reverse).push b[nb]:=by
   rw[<- Array.append_push]
   have e2:b.extract nb (nb+(k+1)) = #[b[nb]]++b.extract (nb+1) (nb+1+k):=by
    apply Array.ext
    ·simp;lia
    ·intro i h1 h2
     rw[QB,Array.getElem_append]
     split
     ·rename_i hz
      have:i=0:=by simpa using hz
      subst this;simp
     ·rename_i hz
      have:1<=i:=by simp at hz;lia
      rw[QB]
      congr 1
      simp
      lia
   rw[e2]
   simp
  rw[e]
  exact ih.jU sb (by lia) (hd nb (by lia) (by lia) (by lia))
theorem Mh.l8 (sa:Srt kk a.toList) (k na) (m:Mh kk a b out (na+k) nb) (hk:na+k<=a.size) (hd:∀j,(hj:j<a.size)->na<=j->j<na+k->∀y∈b.toList.take nb,kk y<kk a[j]):Mh kk a b (out++(a.extract na (na+k)).reverse) na nb:=(Mh.gz sa k na m.symm hk hd).symm
theorem Mh.fin (m:Mh kk a b out 0 0):gM kk a b out.reverse:=by
 refine⟨?_,?_⟩
 ·rw[Array.toList_reverse]
  refine(List.reverse_perm _).trans ?_
  have:=m.perm;simp_all
 ·unfold Srt;rw[Array.toList_reverse,List.pairwise_reverse];exact m.srt
theorem ym (x y:Array Of):(x++y.reverse).reverse=y++x.reverse:=by
 simp
theorem Mh.k4 (m:Mh kk a b out 0 nb) (sb:Srt kk b.toList) (hi:nb<=b.size):gM kk a b (a.extract 0 0++b.extract 0 nb++out.reverse):=by
 have e:a.extract 0 0 = #[]:=by simp
 rw[e,Array.empty_append]
 have:=Mh.gz sb nb 0 (by rw[Pz];exact m) (by lia) (fun j hj _ _ y hy=>by grind)
 rw[Pz] at this
 have f:=this.fin
 simp_all
theorem Mh.mM (m:Mh kk a b out na 0) (sa:Srt kk a.toList) (hi:na<=a.size):gM kk a b (a.extract 0 na++b.extract 0 0++out.reverse):=by
 have e:b.extract 0 0 = #[]:=by simp
 rw[e]
 have:=Mh.l8 sa na 0 (by rw[Pz];exact m) (by lia) (fun j hj _ _ y hy=>by grind)
 rw[Pz] at this
 have f:=this.fin
 simp_all
theorem Mh.first (m:Mh kk a b out na 1) (sa:Srt kk a.toList) (sb:Srt kk b.toList) (hi:na<=a.size) (hb:0<b.size) (hd:∀y∈a.toList,kk b[0]<kk y):gM kk a b (b.extract 0 1++a.extract 0 na++out.reverse):=by
 have hb1:b.toList.take 1=[b[0]]:=by rw[yQ (by simpa using hb)];simp
 have m1:=Mh.l8 sa na 0 (by rw[Pz];exact m) (by lia) (fun j hj _ _ y hy=>by
  rw[hb1,NY] at hy;subst hy
  exact hd _ (by simp))
 have m2:=Mh.gz sb 1 0 (by rw[Pz];exact m1) (by lia) (fun j hj _ _ y hy=>by simp at hy)
 rw[Pz] at m2
 have f:=m2.fin
 rw[ym,ym,<- RJ] at f
 exact f
theorem uP (sa:Srt kk a.toList) (hi) (hv:kk a[i]<v):∀y∈a.toList.take (i+1),kk y<v:=by
 intro y hy
 obtain⟨j,hj,rfl⟩:=Ry.mp hy
 rw[Oa] at hj
 rw[Ri]
 rcases QT j i with z | z
 ·have:=nY sa z hi
  grind
 grind
end
section
variable {prog:NW}{w:Oo}{A:Om}{E:NB->NF->Prop}{s:NF}{κ:Qz}{P:Of->Prop}{kk:Of->Int}
structure Mih (kk) (a b out) (na nb):Prop where
 m:Mh kk a b out na nb
 ha:1<=na
 hb:2<=nb
 la:na<=a.size
 lb:nb<=b.size
theorem Mh.yU (sb:Srt kk b.toList) (hle:k<=hi) (m:Mh kk a b out na hi) (hh:hi<=b.size) (hd:∀j,(hj:j<b.size)->k<=j->j<hi->∀y∈a.toList.take na,kk y<kk b[j]):Mh kk a b (out++(b.extract k hi).reverse) na k:=by
 obtain⟨d,rfl⟩:=Nat.exists_eq_add_of_le hle
 exact Mh.gz sb d k m hh hd
theorem Mh.Ea (sa:Srt kk a.toList) (hle:k<=hi) (m:Mh kk a b out hi nb) (hh:hi<=a.size) (hd:∀j,(hj:j<a.size)->k<=j->j<hi->∀y∈b.toList.take nb,kk y<kk a[j]):Mh kk a b (out++(a.extract k hi).reverse) k nb:=(Mh.yU sa hle m.symm hh hd).symm
theorem get_eq {a:Array Of} (h:i<a.size) (e:k=i):a[k]?=some a[i]:=by simp_all
theorem xt {a b:Array Of}{st:N0}{Q:Array Of->N0->Prop} (c:Cmp prog w A s κ P kk) (t:Two P kk a b) (hk:kindOf st=κ) (ha:1<=a.size) (hb:1<=b.size) (h0:∀y∈a.toList,kk b[0]<kk y) (hl:kk b[b.size - 1]<kk a[a.size - 1])
  (h:∀r st',gM kk a b r->fh st st'->Q r st'):Gv prog w A E s (BZ a b) st Q:=by
 obtain⟨A1,hA1⟩:∃A1,a.size=A1+1:=⟨a.size - 1,by lia⟩
 have hA:A1<a.size:=by lia
 have eA:a.size - 1=A1:=by lia
 have m1:Mh kk a b #[a[A1]] A1 b.size:=by
  have:=(Mh.zero (kk:=kk) (a:=a) (b:=b))
  have t1:=uP t.sb (i:=b.size - 1) (by lia) (show kk b[b.size - 1]<kk a[A1] by have:=hl;simpa [eA] using this)
  rw[show b.size - 1+1=b.size by lia] at t1
  have:=Mh.mB (na:=A1) (by rw[<- hA1];exact this) t.sa hA t1
  simpa using this
 have firstOk:∀{out:Array Of} {na:Nat},Mh kk a b out na 1->na<=a.size->gM kk a b (b.extract 0 1++a.extract 0 na++out.reverse):=fun{out na} m e=>m.first t.sa t.sb e (by lia) h0
 have k4:∀{out:Array Of} {na nb:Nat},Mh kk a b out na nb->na=0->nb<=b.size->gM kk a b (a.extract 0 na++b.extract 0 nb++out.reverse):=fun{out na nb} m e hb'=>by subst e;exact m.k4 t.sb hb'
 with_unfolding_all refine Gv.bind (Gv.rule ?_)
 dsimp only
 refine Gv.bind (Gv.elem (get_eq hA eA) ?_)
 refine bB (fun e=>?_) (fun e1=>?_)
 ·have e':a.size - 1=0:=by simpa using e
  rw[eA]
  exact Gv.pure (h _ _ (k4 m1 (by lia) (by lia)) fh.refl)
 refine bB (fun e=>?_) (fun e2=>?_)
 ·have e':b.size=1:=by simpa using e
  rw[e'] at m1
  rw[e',eA]
  exact Gv.pure (h _ _ (firstOk m1 (by lia)) fh.refl)
 have z1:¬ a.size - 1=0:=by simpa using e1
 have z2:¬ b.size=1:=by simpa using e2
 refine Gv.bind (Gv.get ?_)
 refine Gv.bind (Gv.mono (Q:=fun z st'=>fh st st'/\∃r,z.1=some r/\gM kk a b r) (Gv.range (fun m z st'=>fh st st'/\∃na nb out mg,z=(none,na,nb,out,mg)/\Mih kk a b out na nb/\na+nb<m+1) ⟨fh.refl,a.size - 1,_,_,_,rfl,⟨by rw[eA];exact m1,by lia,by lia,by lia,by lia⟩,by lia⟩ (fun x m z st' hz=>?_) (fun z st' hz=>?_)) (fun z st' hz=>?_))
 ·obtain⟨sm,na,nb,out,mg,rfl,md,pr⟩:=hz
  dsimp only
  refine Gv.bind (Gv.mono (Q:=fun z st''=>fh st st''/\((∃r x y o p q,z=(some r,x,y,o,p,q)/\gM kk a b r)\/∃x y o p q,z=(none,x,y,o,p,q)/\Mih kk a b o x y/\x+y<na+nb)) (Gv.range (fun m' z st''=>fh st st''/\∃x y o p q,z=(none,x,y,o,p,q)/\Mih kk a b o x y/\x+y<=na+nb/\x+y+(a.size+b.size)<=na+nb+m') ⟨sm,_,_,_,_,_,rfl,md,by lia,by lia⟩ (fun x m' z st'' hz=>?_) (fun z st'' hz=>?_)) (fun z st'' hz=>?_))
  ·obtain⟨sm2,x2,y2,o,p,q,rfl,⟨mm,ha2,hb2,la2,lb2⟩,pr0,pr2⟩:=hz
   clear pr md z1 z2 e1 e2 m1 hl eA hA hA1
   obtain⟨i,rfl⟩:∃i,x2=i+1:=⟨x2 - 1,by lia⟩
   obtain⟨j,rfl⟩:∃j,y2=j+2:=⟨y2 - 2,by lia⟩
   have hk2:kindOf st''=κ:=sm2.kind.trans hk
   have hi:i<a.size:=by lia
   have hj:j+1<b.size:=by lia
   dsimp only
   refine Gv.bind (Gv.elem (get_eq hj (by lia)) ?_)
   refine Gv.bind (Gv.elem (get_eq hi (by lia)) ?_)
   refine Gv.bind (Gv.ltC c (t.pb _ (N8 hj)) (t.pa _ (N8 hi)) hk2 ?_)
   dsimp only
   by_cases lt:kk b[j+1]<kk a[i]
   ·rw[decide_eq_true lt,if_pos rfl]
    have m3:Mh kk a b _ i (j+2):=mm.mB t.sa hi (uP t.sb hj lt)
    refine Gv.bind (Gv.elem (get_eq hi (by lia)) ?_)
    refine bB (fun e=>Gv.pure ⟨sm2,.inl ⟨_,_,_,_,_,_,rfl,k4 m3 (by simpa using e) (by lia)⟩⟩) (fun e=>?_)
    have e':¬ i=0:=by simpa using e
    exact bB (fun _=>Gv.pure ⟨sm2,.inr ⟨i,j+2,_,_,_,rfl,⟨m3,by lia,by lia,by lia,by lia⟩,by lia⟩⟩) (fun _=>Gv.pure ⟨sm2,i,j+2,_,_,_,rfl,⟨m3,by lia,by lia,by lia,by lia⟩,by lia,by lia⟩)
   ·have gt:kk a[i]<kk b[j+1]:=by have:=t.ne hi hj;lia
    rw[decide_eq_false lt,if_neg (by decide)]
    have m3:Mh kk a b _ (i+1) (j+1):=mm.jU t.sb hj (uP t.sa hi gt)
    refine Gv.bind (Gv.elem (get_eq hj (by lia)) ?_)
    refine bB (fun e=>?_) (fun e=>?_)
    ·have e':j=0:=by simpa using e
     subst e'
     exact Gv.pure ⟨sm2,.inl ⟨_,_,_,_,_,_,rfl,firstOk m3 (by lia)⟩⟩
    have e':¬ j=0:=by simpa using e
    exact bB (fun _=>Gv.pure ⟨sm2,.inr ⟨i+1,j+1,_,_,_,rfl,⟨m3,by lia,by lia,by lia,by lia⟩,by lia⟩⟩) (fun _=>Gv.pure ⟨sm2,i+1,j+1,_,_,_,rfl,⟨m3,by lia,by lia,by lia,by lia⟩,by lia,by lia⟩)
  ·obtain⟨sm2,x2,y2,o,p,q,rfl,md2,pr0,pr2⟩:=hz
   exact⟨sm2,.inr ⟨_,_,_,_,_,rfl,md2,by lia⟩⟩
  ·obtain⟨sm2,⟨r,x2,y2,o,p,q,rfl,fr⟩ | ⟨x2,y2,o,p,q,rfl,md2,pr2⟩⟩:=hz
   ·exact Gv.pure ⟨sm2,r,rfl,fr⟩
   ·dsimp only
    refine Gv.bind (Gv.rule ?_)
    refine Gv.bind (Gv.mono (Q:=fun z st4=>fh st st4/\((∃r x y o g p q,z=(some r,x,y,o,g,p,q)/\gM kk a b r)\/∃x y o g p q,z=(none,x,y,o,g,p,q)/\Mih kk a b o x y/\x+y<na+nb)) (Gv.range (fun m' z st4=>fh st st4/\∃x y o g p q,z=(none,x,y,o,g,p,q)/\Mih kk a b o x y/\x+y<na+nb) ⟨sm2,_,_,_,_,_,_,rfl,md2,pr2⟩ (fun x m' z st4 hz=>?_) (fun z st4 hz=>?_)) (fun z st4 hz=>?_))
    ·obtain⟨sm4,x4,y4,o,g,p,q,rfl,⟨mm,ha4,hb4,la4,lb4⟩,pr4⟩:=hz
     clear pr pr2 md md2 z1 z2 e1 e2 m1 hl eA hA hA1
     obtain⟨i,rfl⟩:∃i,x4=i+1:=⟨x4 - 1,by lia⟩
     obtain⟨j,rfl⟩:∃j,y4=j+2:=⟨y4 - 2,by lia⟩
     have hj:j+1<b.size:=by lia
     have hi:i<a.size:=by lia
     dsimp only
     refine Cd ?_
     generalize g - 1=g1
     revert g1
     refine xZ (fun g'=>?_) (fun f=>f g)
     ·with_unfolding_all refine Gv.bind (Gv.modS ⟨rfl,rfl,rfl,rfl⟩ (fun st3 sm3'=>?_))
      have sm3:=sm4.trans sm3'
      have hk3:kindOf st3=κ:=sm3.kind.trans hk
      refine Gv.bind (Gv.elem (get_eq hj (by lia)) ?_)
      refine Gv.bind (uj (n:=i+1) (hint:=i) c t.pa (t.pb _ (N8 hj)) hk3 (by lia) (by lia) (fun p q hq _ hpq _=>nY t.sa hpq hq) (fun p hp _ _=>t.ne hp hj) (fun k hk1 e1 e2=>?_))
      dsimp only
      apply zh (F:=fun o' k'=>∃I,∃hI:I<a.size,k'=I+1/\Mh kk a b o' (I+1) (j+2)/\I<=i/\kk a[I]<kk b[j+1])
      ·intro key
       by_cases k0:i+1 - k > 0
       ·rw[if_pos k0]
        have m3':=Mh.Ea t.sa (show k<=i+1 by lia) mm (by lia) (fun p hp h1 h2=>uP t.sb hj (e2 p hp (by lia) (by lia)))
        refine bB (fun e=>Gv.pure ⟨sm3,.inl ⟨_,_,_,_,_,_,_,rfl,k4 m3' (by simpa using e) (by lia)⟩⟩) (fun ne1=>?_)
        have ne1':¬ k=0:=by simpa using ne1
        generalize o++(a.extract k (i+1)).reverse=o' at m3' ⊢
        obtain⟨I,hI⟩:∃I,k=I+1:=⟨k - 1,by lia⟩
        have z:∃I,∃hI:I<a.size,k=I+1/\Mh kk a b o' (I+1) (j+2)/\I<=i/\kk a[I]<kk b[j+1]:=⟨I,by lia,hI,by rw[<- hI];exact m3',by lia,e1 I (by lia) (by lia) (by lia)⟩
        revert z
        generalize k=k2
        exact key o' k2
       ·have e':k=i+1:=by lia
        subst e'
        rw[if_neg k0]
        exact key o (i+1) ⟨i,hi,rfl,mm,by lia,e1 i hi (by lia) (by lia)⟩
      ·rintro o' k' ⟨I,hI,ek,m3,iI,gtI⟩
       subst ek
       refine Gv.bind (Gv.elem (get_eq hj (by lia)) ?_)
       have m4:Mh kk a b _ (I+1) (j+1):=Mh.jU m3 t.sb hj (uP t.sa hI gtI)
       refine bB (fun e=>?_) (fun ne3=>?_)
       ·have e':j=0:=by simpa using e
        subst e'
        exact Gv.pure ⟨sm3,.inl ⟨_,_,_,_,_,_,_,rfl,firstOk m4 (by lia)⟩⟩
       have ne3':¬ j=0:=by simpa using ne3
       refine Gv.bind (Gv.elem (get_eq hI (by lia)) ?_)
       refine Gv.bind (sP (n:=j+1) (hint:=j) c t.pb (t.pa _ (N8 hI)) hk3 (by lia) (by lia) (fun p q hq _ hpq _=>nY t.sb hpq hq) (fun k1 hk1 f1 f2=>?_))
       dsimp only
       refine bB (fun k10=>?_) (fun k10=>?_)
       ·skip
        have m5:=Mh.yU t.sb (show k1<=j+1 by lia) m4 (by lia) (fun q hq h1 h2=>uP t.sa hI (by have:=f2 q hq (by lia) (by lia);have:=t.ne hI hq;lia))
        refine bB (fun e=>?_) (fun ne4=>?_)
        ·have e':k1=1:=by simpa using e
         subst e'
         exact Gv.pure ⟨sm3,.inl ⟨_,_,_,_,_,_,_,rfl,firstOk m5 (by lia)⟩⟩
        refine bB (fun e=>?_) (fun ne6=>?_)
        ·have e':k1=0:=by simpa using e
         subst e'
         exact Gv.pure ⟨sm3,.inl ⟨_,_,_,_,_,_,_,rfl,m5.mM t.sa (by lia)⟩⟩
        have ne4':¬ k1=1:=by simpa using ne4
        have ne6':¬ k1=0:=by simpa using ne6
        have ltJ:∀y∈b.toList.take k1,kk y<kk a[I]:=by
         have:=uP t.sb (i:=k1 - 1) (by lia) (f1 (k1 - 1) (by lia) (by lia) (by lia))
         rwa [show k1 - 1+1=k1 by lia] at this
        refine Gv.bind (Gv.elem (get_eq hI (by lia)) ?_)
        have m6:Mh kk a b _ I k1:=Mh.mB m5 t.sa hI ltJ
        refine bB (fun e=>Gv.pure ⟨sm3,.inl ⟨_,_,_,_,_,_,_,rfl,k4 m6 (by simpa using e) (by lia)⟩⟩) (fun ne5=>?_)
        have ne5':¬ I=0:=by simpa using ne5
        exact bB (fun _=>Gv.pure ⟨sm3,.inr ⟨I,k1,_,_,_,_,rfl,⟨m6,by lia,by lia,by lia,by lia⟩,by lia⟩⟩) (fun _=>Gv.pure ⟨sm3,I,k1,_,_,_,_,rfl,⟨m6,by lia,by lia,by lia,by lia⟩,by lia⟩)
       ·skip
        have e1':k1=j+1:=by lia
        have m5:=m4
        have ltJ:∀y∈b.toList.take (j+1),kk y<kk a[I]:=uP t.sb (by lia) (f1 j (by lia) (by lia) (by lia))
        refine Gv.bind (Gv.elem (get_eq hI (by lia)) ?_)
        have m6:Mh kk a b _ I (j+1):=Mh.mB m5 t.sa hI ltJ
        refine bB (fun e=>Gv.pure ⟨sm3,.inl ⟨_,_,_,_,_,_,_,rfl,k4 m6 (by simpa using e) (by lia)⟩⟩) (fun ne5=>?_)
        have ne5':¬ I=0:=by simpa using ne5
        exact bB (fun _=>Gv.pure ⟨sm3,.inr ⟨I,(j+1),_,_,_,_,rfl,⟨m6,by lia,by lia,by lia,by lia⟩,by lia⟩⟩) (fun _=>Gv.pure ⟨sm3,I,(j+1),_,_,_,_,rfl,⟨m6,by lia,by lia,by lia,by lia⟩,by lia⟩)
    ·obtain⟨sm4,x4,y4,o,g,p,q,rfl,md4,pr4⟩:=hz
     exact⟨sm4,.inr ⟨_,_,_,_,_,_,rfl,md4,pr4⟩⟩
    ·obtain⟨sm4,⟨r,x4,y4,o,g,p,q,rfl,fr⟩ | ⟨x4,y4,o,g,p,q,rfl,md4,pr4⟩⟩:=hz
     ·exact Gv.pure ⟨sm4,r,rfl,fr⟩
     ·dsimp only
      with_unfolding_all refine Gv.bind (Gv.modS ⟨rfl,rfl,rfl,rfl⟩ (fun st3 sm3'=>?_))
      exact Gv.pure ⟨sm4.trans sm3',_,_,_,_,rfl,md4,by lia⟩
 ·obtain⟨sm,na,nb,out,mg,rfl,md,pr⟩:=hz
  have:=md.ha
  lia
 ·obtain⟨sm,r,e,fr⟩:=hz
  rw[e]
  exact Gv.pure (h r st' fr sm)
end
section
variable {kk:Of->Int}
noncomputable def seg (a:Array Of) (lo n:Nat):List Of:=(a.toList.drop lo).take n
theorem dD {lo n:Nat} (h:lo+n<=a.size):(seg a lo n).length=n:=by unfold seg;grind
theorem kA {lo n i:Nat} (h) (hi):(seg a lo n)[i]'(by rw[dD h];exact hi)=a[lo+i]:=by
 unfold seg;simp
theorem de (a) (lo n k) (h:k<=n):seg a lo n=seg a lo k++seg a (lo+k) (n - k):=by
 unfold seg
 rw[<- QK]
 have:n=k+(n - k):=by lia
 grind
theorem kU {lo n:Nat} (h:lo+n<=a.size) (s:Srt kk (seg a lo n)){j m:Nat} (hj:lo<=j) (hjm:j<m) (hm:m<lo+n):kk (a[j]'(by lia))<kk (a[m]'(by lia)):=by
 have:=NX.mp s (j - lo) (m - lo) (by rw[dD h];lia) (by rw[dD h];lia) (by lia)
 rw[kA h (by lia),kA h (by lia)] at this
 grind
theorem ey {lo n:Nat} (h:lo+n<=a.size) (hx:x∈seg a lo n):∃j,∃hj:j<a.size,lo<=j/\j<lo+n/\a[j]=x:=by
 obtain⟨i,hi,rfl⟩:=Ry.mp hx
 have hi':i<n:=by rw[dD h] at hi;exact hi
 exact⟨lo+i,by lia,by lia,by lia,(kA h hi').symm⟩
theorem zf {lo n:Nat} (h:x∈seg a lo n):x∈a:=by
 have:=List.mem_of_mem_drop (P7 h)
 simp_all
theorem f6 (a) (lo n):a.toList=a.toList.take lo++seg a lo n++a.toList.drop (lo+n):=by
 unfold seg
 rw[<- QK,Oj,P0,P0]
theorem zg (a) (lo hi):(a.extract lo hi).toList=seg a lo (hi - lo):=by
 unfold seg;simp
theorem vq:∀(l o X Z:List Of) (a:Array Of) (k pos:Nat),a.toList=X++o++Z->o.length=l.length->X.length=pos+k->((l.zipIdx k).foldl (fun a pj=>a.setIfInBounds (pos+pj.2) pj.1) a).toList=X++l++Z
 | [],o,X,Z,a,k,pos,e,hl,_=>by
  simp_all
 | x::l,[],X,Z,a,k,pos,e,hl,_=>by grind
 | x::l,y::o,X,Z,a,k,pos,e,hl,hX=>by
  rw[List.zipIdx_cons,Sm]
  have e1:(a.setIfInBounds (pos+k) x).toList=(X++[x])++o++Z:=by
   simp_all
  have:=vq l o (X++[x]) Z (a.setIfInBounds (pos+k) x) (k+1) pos e1 (by simp_all) (by grind)
  simp_all
end
section
variable {prog:NW}{w:Oo}{A:Om}{E:NB->NF->Prop}{s:NF}{κ:Qz}{P:Of->Prop}{kk:Of->Int}
theorem Gv.LJ {st st0:N0} (h:∀st',st'=st0->Q ⟨⟩ st'):Gv prog w A E s (MonadState.set st0:StateT N0 Sem PUnit) st Q:=Gv.set (h _ rfl)
theorem Gv.n_ {st:N0} (h:∀st',st'=f st->Q ⟨⟩ st'):Gv prog w A E s (_root_.modify f:StateT N0 Sem PUnit) st Q:=Gv.modify (h _ rfl)
theorem qT {a:Array Of} (nd:(a.toList.map kk).Nodup){i j:Nat} (hi:i<a.size) (hj:j<a.size) (n:i≠j):kk a[i]≠kk a[j]:=fun e=>by
 have h:=NX.mp nd
 rcases Nat.lt_or_gt_of_ne n with z | z
 ·have:=h i j (by simpa using hi) (by simpa using hj) z
  simp at this;exact this e
 ·have:=h j i (by simpa using hj) (by simpa using hi) z
  simp at this;exact this e.symm
theorem nS {a a':Array Of}{sa na nb k q:Nat}{r:List Of} (hk:k<=na) (hq:q<=nb) (hn:sa+na+nb<=a.size) (hr:r.Perm (seg a (sa+k) (na - k)++seg a (sa+na) q)) (sr:Srt kk r)
  (e:a'.toList=a.toList.take (sa+k)++r++a.toList.drop (sa+na+q))
  (s1:Srt kk (seg a sa na)) (s2:Srt kk (seg a (sa+na) nb)) (o3:∀j,(hj:j<a.size)->sa<=j->j<sa+k->∀m,(hm:m<a.size)->sa+na<=m->m<sa+na+nb->kk a[j]<kk a[m])
  (o4:∀j,(hj:j<a.size)->sa<=j->j<sa+na->∀m,(hm:m<a.size)->sa+na+q<=m->m<sa+na+nb->kk a[j]<kk a[m]) :
  a'.toList=a.toList.take sa++(seg a sa k++r++seg a (sa+na+q) (nb - q))++a.toList.drop (sa+na+nb)/\(seg a sa k++r++seg a (sa+na+q) (nb - q)).Perm (seg a sa (na+nb))/\Srt kk (seg a sa k++r++seg a (sa+na+q) (nb - q)):=by
 have e1:=de a sa na k hk
 have e2:=de a (sa+na) nb q hq
 refine⟨?_,?_,?_⟩
 ·rw[e,List.take_add]
  have:a.toList.drop (sa+na+q)=seg a (sa+na+q) (nb - q)++a.toList.drop (sa+na+nb):=by
   have:=(P0 (nb - q) (a.toList.drop (sa+na+q))).symm
   rwa [QK,show sa+na+q+(nb - q)=sa+na+nb by lia] at this
  rw[this]
  unfold seg
  simp[Oj]
 ·have e3:seg a sa (na+nb)=seg a sa na++seg a (sa+na) nb:=by
   have:=de a sa (na+nb) na (by lia)
   rwa [show na+nb - na=nb by lia] at this
  rw[e3,e1,e2]
  have:=(hr.append_left (seg a sa k)).append_right (seg a (sa+na+q) (nb - q))
  simpa [Oj] using this
 ·have S1:=s1
  rw[e1] at S1
  have S2:=s2
  rw[e2] at S2
  unfold Srt at S1 S2
  rw[N9] at S1 S2
  refine N9.mpr ⟨N9.mpr ⟨S1.1,sr,fun x hx y hy=>?_⟩,S2.2.1,fun x hx y hy=>?_⟩
  ·rcases Oe.mp (hr.mem_iff.mp hy) with hy | hy
   ·exact S1.2.2 x hx y hy
   ·obtain⟨j,hj,j1,j2,rfl⟩:=ey (by lia) hx
    obtain⟨m,hm,m1,m2,rfl⟩:=ey (by lia) hy
    exact o3 j hj j1 j2 m hm m1 (by lia)
  ·obtain⟨m,hm,m1,m2,rfl⟩:=ey (by lia) hy
   rcases Oe.mp hx with hx | hx
   ·obtain⟨j,hj,j1,j2,rfl⟩:=ey (by lia) hx
    exact o4 j hj j1 (by lia) m hm (by lia) (by lia)
   ·rcases Oe.mp (hr.mem_iff.mp hx) with hx | hx
    ·obtain⟨j,hj,j1,j2,rfl⟩:=ey (by lia) hx
     exact o4 j hj (by lia) (by lia) m hm (by lia) (by lia)
    ·exact S2.2.2 _ hx _ hy
theorem xf {i sa na pw nb pw2:Nat}{st:N0}{Q:Bool->N0->Prop} (c:Cmp prog w A s κ P kk) (hk:kindOf st=κ) (hf:failedOf st=none) (hp:∀x∈arrOf st,P x) (nd:((arrOf st).toList.map kk).Nodup)
  (p1:(pendingOf st)[i]?=some (sa,na,pw)) (p2:(pendingOf st)[i+1]?=some (sa+na,nb,pw2)) (h1:1<=na) (h2:1<=nb) (hn:sa+na+nb<=(arrOf st).size) (s1:Srt kk (seg (arrOf st) sa na)) (s2:Srt kk (seg (arrOf st) (sa+na) nb))
  (h:∀(st':N0) (M:List Of),kindOf st'=κ->failedOf st'=none->pendingOf st'=((pendingOf st).setIfInBounds i (sa,na+nb,pw)).eraseIdxIfInBounds (i+1)->(arrOf st').toList=(arrOf st).toList.take sa++M++(arrOf st).toList.drop (sa+na+nb)->M.Perm (seg (arrOf st) sa (na+nb))->Srt kk M->Q true st'):Gv prog w A E s (mergeAt' i) st Q:=by
 obtain⟨kd,a,pd,mg,fl⟩:=st
 with_unfolding_all refine Gv.bind (Gv.get ?_)
 rw[show pd[i]?=_ from p1,show pd[i+1]?=_ from p2]
 dsimp only
 replace nd:(a.toList.map kk).Nodup:=nd
 replace hn:sa+na+nb<=a.size:=hn
 refine Gv.bind (Gv.LJ fun st1 f1=>?_)
 have k1:kindOf st1=κ:=by rw[f1];exact hk
 have fl1:failedOf st1=none:=by rw[f1];exact hf
 have a1:arrOf st1=a:=by rw[f1]
 have pd1:pendingOf st1=(pd.setIfInBounds i (sa,na+nb,pw)).eraseIdxIfInBounds (i+1):=by rw[f1]
 have hsb:sa+na<a.size:=by lia
 have hs1:sa+na<=a.size:=by lia
 have o1:∀{j m:Nat} (hm:m<a.size),sa<=j->(hjm:j<m)->m<sa+na->kk (a[j]'(by lia))<kk a[m]:=fun hm h1 h2 h3=>kU hs1 s1 h1 h2 h3
 have o2:∀{j m:Nat} (hm:m<a.size),sa+na<=j->(hjm:j<m)->m<sa+na+nb->kk (a[j]'(by lia))<kk a[m]:=fun hm h1 h2 h3=>kU hn s2 h1 h2 h3
 refine Gv.bind (Gv.elem (get_some hsb) ?_)
 refine Gv.bind (uj c hp (hp _ (N8 hsb)) k1 hs1 (by lia) (fun j m hm h1 h2 h3=>o1 hm h1 h2 h3) (fun j hj h1 h2=>qT nd hj hsb (by lia)) (fun k hk1 e1 e2=>?_))
 have O3:∀j,(hj:j<a.size)->sa<=j->j<sa+k->∀m,(hm:m<a.size)->sa+na<=m->m<sa+na+nb->kk a[j]<kk a[m]:=fun j hj h1 h2 m hm h3 h4=>by
  have x1:=e1 j hj h1 h2
  rcases Pe h3 with z | z
  ·have:=o2 hm (NC _) z h4;lia
  ·subst z;exact x1
 dsimp only
 refine bB (fun e=>?_) (fun ne1=>?_)
 ·have e':na - k=0:=by simpa using e
  have ek:k=na:=by lia
  subst ek
  have pb:=nS (a:=a) (a':=arrOf st1) (sa:=sa) (na:=k) (nb:=nb) (k:=k) (q:=nb) (r:=seg a (sa+k) nb) (NC _) (NC _) hn (by unfold seg;simp) s2 (by rw[a1];exact f6 a (sa+k) nb) s1 s2 O3 (fun j hj h1 h2 m hm h3 h4=>by lia)
  exact Gv.pure (h st1 _ k1 fl1 pd1 pb.1 pb.2.1 pb.2.2)
 have ne1':¬ na - k=0:=by simpa using ne1
 have hx:sa+na - 1<a.size:=by lia
 refine Gv.bind (Gv.elem (get_eq hx (by lia)) ?_)
 refine Gv.bind (sP c hp (hp _ (N8 hx)) k1 hn (by lia) (fun j m hm h1 h2 h3=>o2 hm h1 h2 h3) (fun q hq1 f1 f2=>?_))
 have O4:∀j,(hj:j<a.size)->sa<=j->j<sa+na->∀m,(hm:m<a.size)->sa+na+q<=m->m<sa+na+nb->kk a[j]<kk a[m]:=fun j hj h1 h2 m hm h3 h4=>by
  have x1:=f2 m hm h3 h4
  have x2:=qT nd hm hx (by lia)
  rcases Pe (show j<=sa+na - 1 by lia) with z | z
  ·have:=o1 hx h1 z (by lia);lia
  ·subst z;lia
 dsimp only
 refine bB (fun e=>?_) (fun ne2=>?_)
 ·have e':q=0:=by simpa using e
  subst e'
  have pb:=nS (a:=a) (a':=arrOf st1) (sa:=sa) (na:=na) (nb:=nb) (k:=k) (q:=0) (r:=seg a (sa+k) (na - k)) hk1 (OU _) hn (by unfold seg;simp) (by have:=s1;rw[de a sa na k hk1] at this;exact(N9.mp this).2.1) (by rw[a1,Nat.add_zero];have:=f6 a (sa+k) (na - k);rwa [show sa+k+(na - k)=sa+na by lia] at this) s1 s2 O3 O4
  exact Gv.pure (h st1 _ k1 fl1 pd1 pb.1 pb.2.1 pb.2.2)
 have ne2':¬ q=0:=by simpa using ne2
 -- the merge
 have xl:(a.extract (sa+k) (sa+na)).toList=seg a (sa+k) (na - k):=by rw[zg,show sa+na - (sa+k)=na - k by lia]
 have yl:(a.extract (sa+na) (sa+na+q)).toList=seg a (sa+na) q:=by rw[zg,show sa+na+q - (sa+na)=q by lia]
 have xs:(a.extract (sa+k) (sa+na)).size=na - k:=by simp;lia
 have ys:(a.extract (sa+na) (sa+na+q)).size=q:=by simp;lia
 have xg:∀j,(hj:j<na - k)->(a.extract (sa+k) (sa+na))[j]'(by rw[xs];exact hj)=a[sa+k+j]'(by lia):=fun j hj=>by rw[QB]
 have yg:∀j,(hj:j<q)->(a.extract (sa+na) (sa+na+q))[j]'(by rw[ys];exact hj)=a[sa+na+j]'(by lia):=fun j hj=>by rw[QB]
 have tw:Two P kk (a.extract (sa+k) (sa+na)) (a.extract (sa+na) (sa+na+q)):=by
  refine⟨fun x hx=>hp x ?_,fun x hx=>hp x ?_,?_,?_,?_⟩
  ·have hx':x∈(a.extract (sa+k) (sa+na)).toList:=Pf.mpr hx
   rw[xl] at hx';exact zf hx'
  ·have hx':x∈(a.extract (sa+na) (sa+na+q)).toList:=Pf.mpr hx
   rw[yl] at hx';exact zf hx'
  ·rw[xl];have:=s1;rw[de a sa na k hk1] at this;exact(N9.mp this).2.1
  ·rw[yl];have:=s2;rw[de a (sa+na) nb q hq1] at this;exact(N9.mp this).1
  ·intro x hx y hy
   rw[xl] at hx
   rw[yl] at hy
   obtain⟨j,hj,j1,j2,rfl⟩:=ey (by lia) hx
   obtain⟨m,hm,m1,m2,rfl⟩:=ey (by lia) hy
   exact qT nd hj hm (by lia)
 have fin:∀(r:Array Of) (st2:N0),gM kk (a.extract (sa+k) (sa+na)) (a.extract (sa+na) (sa+na+q)) r->fh st1 st2->∀st3:N0,kindOf st3=kindOf st2->failedOf st3=failedOf st2->pendingOf st3=pendingOf st2->arrOf st3=r.toList.zipIdx.foldl (fun a pj=>a.setIfInBounds (sa+k+pj.2) pj.1) (arrOf st2)->Q true st3:=by
  intro r st2 fr sm st3 g1 g2 g3 g4
  obtain⟨pr,sr⟩:=fr
  rw[xl,yl] at pr
  have hrl:r.toList.length=na - k+q:=by rw[pr.length_eq,N2,dD (by lia),dD (by lia)]
  have ea:(arrOf st3).toList=a.toList.take (sa+k)++r.toList++a.toList.drop (sa+na+q):=by
   rw[g4,sm.arr,a1]
   have e0:=f6 a (sa+k) (na - k+q)
   rw[show sa+k+(na - k+q)=sa+na+q by lia] at e0
   exact vq r.toList (seg a (sa+k) (na - k+q)) (a.toList.take (sa+k)) (a.toList.drop (sa+na+q)) a 0 (sa+k) e0 (by rw[dD (by lia),hrl]) (by rw[Oa,NO];lia)
  have pb:=nS hk1 hq1 hn pr sr ea s1 s2 O3 O4
  exact h st3 _ (g1.trans (sm.kind.trans k1)) (g2.trans (sm.fail.trans fl1)) (g3.trans (sm.pend.trans pd1)) pb.1 pb.2.1 pb.2.2
 have lo0:kk ((a.extract (sa+na) (sa+na+q))[0]'(by lia))<kk ((a.extract (sa+k) (sa+na))[0]'(by lia)):=by
  rw[xg 0 (by lia),yg 0 (by lia)]
  exact e2 (sa+k) (by lia) (by lia) (by lia)
 have allY:∀y∈(a.extract (sa+na) (sa+na+q)).toList,kk y<kk ((a.extract (sa+k) (sa+na))[(a.extract (sa+k) (sa+na)).size - 1]'(by lia)):=by
  intro y hy
  rw[yl] at hy
  obtain⟨m,hm,m1,m2,rfl⟩:=ey (by lia) hy
  have:(a.extract (sa+k) (sa+na))[(a.extract (sa+k) (sa+na)).size - 1]'(by lia)=a[sa+na - 1]:=by
   rw[xg _ (by lia)]
   congr 1
   lia
  rw[this]
  exact f1 m hm m1 m2
 refine bB (fun _=>?_) (fun _=>?_)
 ·refine Gv.bind (xT c tw k1 (by lia) (by lia) lo0 allY (fun r st2 fr sm=>?_))
  refine Gv.bind (Gv.n_ fun st3 g=>?_)
  refine Gv.bind (Gv.get ?_)
  have g2:failedOf st3=failedOf st2:=by rw[g]
  have g3:(failedOf st3).isNone=true:=by rw[g2.trans (sm.fail.trans fl1)];rfl
  refine Gv.pure ?_
  show Q (failedOf st3).isNone st3
  rw[g3]
  exact fin r st2 fr sm st3 (by rw[g]) g2 (by rw[g]) (by rw[g])
 ·refine Gv.bind (xt c tw k1 (by lia) (by lia) (fun y hy=>?_) (allY _ (Pf.mpr (N8 _))) (fun r st2 fr sm=>?_))
  ·rw[xl] at hy
   obtain⟨m,hm,m1,m2,rfl⟩:=ey (by lia) hy
   rw[yg 0 (by lia)]
   exact e2 m hm (by lia) (by lia)
  refine Gv.bind (Gv.n_ fun st3 g=>?_)
  refine Gv.bind (Gv.get ?_)
  have g2:failedOf st3=failedOf st2:=by rw[g]
  have g3:(failedOf st3).isNone=true:=by rw[g2.trans (sm.fail.trans fl1)];rfl
  refine Gv.pure ?_
  show Q (failedOf st3).isNone st3
  rw[g3]
  exact fin r st2 fr sm st3 (by rw[g]) g2 (by rw[g]) (by rw[g])
end
section
variable {kk:Of->Int}{a:Array Of}
theorem i_ {lo n i:Nat}:(seg a lo n)[i]?=if i<n then a[lo+i]? else none:=by
 unfold seg
 rw[Qy,Qx]
 split
 ·rw[NP]
 ·rfl
theorem vx {i j:Nat} (hij:i<=j) (hj:j<=a.size):(mirror a i j ((j - i) / 2)).toList=a.toList.take i++(seg a i (j - i)).reverse++a.toList.drop j:=by
 have hsl:(seg a i (j - i)).length=j - i:=dD (by lia)
 apply Qc
 intro k
 rw[NP,getElem?_mirror_all hj]
 have l1:(a.toList.take i).length=i:=by rw[Oa,NO];lia
 have l2:(a.toList.take i++(seg a i (j - i)).reverse).length=j:=by rw[N2,RG];lia
 by_cases h1:k<i
 ·rw[if_neg (by lia),NN (by rw[l2];lia),NN (by rw[l1];exact h1),Qy,if_pos h1,NP]
 ·by_cases h2:k<j
  ·rw[if_pos ⟨by lia,h2⟩,NN (by rw[l2];lia),NR (by rw[l1];lia),List.getElem?_reverse (by rw[hsl];lia),i_,if_pos (by lia)]
   congr 1
   lia
  ·rw[if_neg (by lia),NR (by rw[l2];lia),Qx,NP]
   congr 1
   lia
theorem vN {src dst:Nat} (hd:dst<=src) (hs:src<a.size):(bubble a src (src - dst)).toList=a.toList.take dst++(a[src]::seg a dst (src - dst))++a.toList.drop (src+1):=by
 have hsl:(seg a dst (src - dst)).length=src - dst:=dD (by lia)
 apply Qc
 intro k
 rw[NP,getElem?_bubble hs _ (by lia),show src - (src - dst)=dst by lia]
 have l1:(a.toList.take dst).length=dst:=by rw[Oa,NO];lia
 have l2:(a.toList.take dst++(a[src]::seg a dst (src - dst))).length=src+1:=by rw[N2,OO];lia
 by_cases h0:k<dst
 ·rw[if_neg (by lia),if_neg (by lia),NN (by rw[l2];lia),NN (by rw[l1];exact h0),Qy,if_pos h0,NP]
 ·by_cases h1:k=dst
  ·subst h1
   rw[NN (by rw[l2];lia),NR (by rw[l1];lia),l1]
   simp[hs]
  ·by_cases h2:k<=src
   ·rw[if_neg h1,if_pos ⟨by lia,h2⟩,NN (by rw[l2];lia),NR (by rw[l1];lia),l1]
    obtain⟨e,he⟩:∃e,k - dst=e+1:=⟨k - dst - 1,by lia⟩
    rw[he,List.getElem?_cons_succ,i_,if_pos (by lia)]
    congr 1
    lia
   ·rw[if_neg h1,if_neg (by lia),NR (by rw[l2];lia),Qx,NP]
    congr 1
    lia
theorem jb {lo n:Nat} (h:lo+n<a.size):seg a lo (n+1)=seg a lo n++[a[lo+n]]:=by
 rw[de a lo (n+1) n (by lia)]
 congr 1
 apply Qc
 intro k
 rw[i_]
 cases k with
 | zero=>simp[h]
 | succ k=>simp
theorem zj:Srt kk [x]:=OS _ _
theorem DK {lo:Nat} (h:lo<a.size):Srt kk (seg a lo 1):=by
 have:=jb (show lo+0<a.size by lia)
 rw[this]
 have e:seg a lo 0=[]:=by rfl
 rw[e];exact zj
theorem DG {lo n:Nat} (s:Srt kk (seg a lo n)) (h1:1<=n) (h:lo+n<a.size) (lt:kk a[lo+n - 1]<kk a[lo+n]):Srt kk (seg a lo (n+1)):=by
 rw[jb h]
 refine N9.mpr ⟨s,zj,fun x hx y hy=>?_⟩
 rw[NY] at hy;subst hy
 obtain⟨j,hj,j1,j2,rfl⟩:=ey (by lia) hx
 rcases Pe (show j<=lo+n - 1 by lia) with z | z
 ·have:=kU (by lia) s j1 z (by lia);lia
 simp_all
noncomputable def Dsc (kk:Of->Int) (l:List Of):Prop:=l.Pairwise fun x y=>kk y<kk x
theorem yk {lo n:Nat} (s:Dsc kk (seg a lo n)) (h1:1<=n) (h) (lt:kk a[lo+n]<kk a[lo+n - 1]):Dsc kk (seg a lo (n+1)):=by
 rw[jb h]
 refine N9.mpr ⟨s,OS _ _,fun x hx y hy=>?_⟩
 rw[NY] at hy;subst hy
 obtain⟨j,hj,j1,j2,rfl⟩:=ey (by lia) hx
 rcases Pe (show j<=lo+n - 1 by lia) with z | z
 ·have hl:(seg a lo n).length=n:=dD (by lia)
  have:=NX.mp s (j - lo) (n - 1) (by lia) (by lia) (by lia)
  rw[kA (by lia) (by lia),kA (by lia) (by lia)] at this
  grind
 simp_all
structure Prt (a a':Array Of) (lo n) (S):Prop where
 eq:a'.toList=a.toList.take lo++S++a.toList.drop (lo+n)
 perm:S.Perm (seg a lo n)
theorem Prt.all {lo n:Nat} (p:Prt a a' lo n S):a'.toList.Perm a.toList:=by
 rw[p.eq]
 conv=>rhs;rw[f6 a lo n]
 exact(p.perm.append_left _).append_right _
theorem Prt.size {lo n:Nat} (p:Prt a a' lo n S):a'.size=a.size:=by
 have:=p.all.length_eq;omega
theorem Prt.P {lo n:Nat}{P:Of->Prop} (p:Prt a a' lo n S) (h:∀x∈a,P x):∀x∈a',P x:=fun x hx=>h x (by
 have:=p.all.mem_iff.mp (Pf.mpr hx);simp_all)
theorem Prt.nd {lo n:Nat} (p:Prt a a' lo n S) (h:(a.toList.map kk).Nodup):(a'.toList.map kk).Nodup:=((p.all.map kk).nodup_iff).mpr h
theorem Prt.seg {lo n:Nat} (p:Prt a a' lo n S) (h:lo+n<=a.size):seg a' lo n=S:=by
 have hS:S.length=n:=by rw[p.perm.length_eq,dD h]
 unfold L2.SM.seg
 rw[p.eq,Oj,List.drop_append_of_le_length (by grind),Q8 (by grind),PJ,Qo (by lia),OX (by lia)]
theorem Prt.before {lo n:Nat} (p:Prt a a' lo n S) (h:lo+n<=a.size) (hk:i+k<=lo):L2.SM.seg a' i k=L2.SM.seg a i k:=by
 apply Qc
 intro q
 rw[i_,i_]
 split
 ·rename_i hq
  rw[<- NP,<- NP,p.eq,Oj,NN (by grind),Qy,if_pos (by lia)]
 ·rfl
theorem Prt.refl {lo n:Nat}:Prt a a lo n (L2.SM.seg a lo n):=⟨f6 a lo n,.refl _⟩
end
section
variable {prog:NW}{w:Oo}{A:Om}{E:NB->NF->Prop}{s:NF}{κ:Qz}{P:Of->Prop}{kk:Of->Int}
theorem uJ {β:Type}{f:Nat->β->StateT N0 Sem (ForInStep β)} (I:Nat->β->N0->Prop) (D:β->N0->Prop) (hi:Nat)
  (step:∀x b st,x<hi->I x b st->Gv prog w A E s (f x b) st fun r st'=>match r with | .done b'=>D b' st' | .yield b'=>I (x+1) b' st')
  (fin:∀b st,I hi b st->D b st):∀(n lo:Nat) (b:β) (st:N0),lo+n=hi->I lo b st->Gv prog w A E s (forIn (RD lo n) b f) st D
 | 0,lo,b,st,e,h=>kasC_nil ⟨rfl,fin b st ((show lo=hi by lia) ▸ h)⟩
 | n+1,lo,b,st,e,h=>by
  have ih:=uJ I D hi step fin n (lo+1)
  refine kasC_cons (OW (step lo b st (by lia) h) (fun r s' h'=>?_) fun _ _ e=>e)
  obtain⟨e',h'⟩:=h'
  subst e'
  revert h'
  cases r.1 with
  | done b'=>simp
  | yield b'=>intro h';exact ih b' r.2 (by lia) h'
theorem Gv.sU {st:N0} (I:Nat->β->N0->Prop) (hab:a<=b) (h0:I a c st)
  (step:∀x z st,x<b->I x z st->Gv prog w A E s (f x z) st fun r st'=>match r with | .done b'=>Q b' st' | .yield b'=>I (x+1) b' st')
  (fin:∀z st,I b z st->Q z st):Gv prog w A E s (forIn [a:b] c f) st Q:=
 kasC_range (uJ I Q b step fin (b - a) a c st (by lia) h0)
structure Ok (κ) (P:Of->Prop) (kk:Of->Int) (st:N0):Prop where
 kind:kindOf st=κ
 fail:failedOf st=none
 all:∀x∈arrOf st,P x
 nd:((arrOf st).toList.map kk).Nodup
theorem Gv.ltAt {st:N0} (c:Cmp prog w A s κ P kk) (o:Ok κ P kk st) (hi) (hj:j<(arrOf st).size) (h:Q (some (decide (kk (arrOf st)[i]<kk (arrOf st)[j]))) st):Gv prog w A E s (ltAt' i j) st Q:=by
 refine Gv.bind (Gv.get ?_)
 refine Gv.bind (Gv.elem (get_some hi) ?_)
 refine Gv.bind (Gv.elem (get_some hj) ?_)
 exact Gv.ltC c (o.all _ (N8 hi)) (o.all _ (N8 hj)) o.kind h
structure Arr (st st':N0) (a'):Prop where
 kind:kindOf st'=kindOf st
 fail:failedOf st'=failedOf st
 pend:pendingOf st'=pendingOf st
 arr:arrOf st'=a'
theorem Arr.refl {st:N0}:Arr st st (arrOf st):=⟨rfl,rfl,rfl,rfl⟩
theorem Arr.ok {st st':N0}{lo n:Nat} (o:Ok κ P kk st) (r:Arr st st' a') (p:Prt (arrOf st) a' lo n S):Ok κ P kk st':=⟨r.kind.trans o.kind,r.fail.trans o.fail,by rw[r.arr];exact p.P o.all,by rw[r.arr];exact p.nd o.nd⟩
theorem vv {lo nrem n0:Nat}{st:N0}{f:Nat->Option (Option Nat) × Nat->StateT N0 Sem (ForInStep (Option (Option Nat) × Nat))}{R:Option (Option Nat) × Nat->N0->Prop} (hn:lo+nrem<=(arrOf st).size) (nd:((arrOf st).toList.map kk).Nodup) (h1:1<=n0) (h2:n0<=nrem) (s0:Srt kk (seg (arrOf st) lo n0))
  (hf:∀x n T,1<=n->(hl:lo+n<(arrOf st).size)->T (if kk (arrOf st)[lo+n]<kk ((arrOf st)[lo+n - 1]'(by lia)) then .done (none,n) else .yield (none,n+1)) st->Gv prog w A E s (f x (none,n)) st T)
  (hR:∀n,n0<=n->n<=nrem->Srt kk (seg (arrOf st) lo n)->(n<nrem->∀hl:lo+n<(arrOf st).size,kk (arrOf st)[lo+n]<kk ((arrOf st)[lo+n - 1]'(by lia)))->R (none,n) st):Gv prog w A E s (forIn [n0:nrem] (none,n0) f) st R:=by
 refine Gv.sU (fun x z st'=>st'=st/\z=(none,x)/\n0<=x/\Srt kk (seg (arrOf st) lo x)) h2 ⟨rfl,rfl,NC _,s0⟩ (fun x z st' hx hz=>?_) (fun z st' hz=>?_)
 ·obtain⟨rfl,rfl,g1,g2⟩:=hz
  have hl:lo+x<(arrOf st').size:=by lia
  refine hf x x _ (by lia) hl ?_
  by_cases lt:kk (arrOf st')[lo+x]<kk ((arrOf st')[lo+x - 1]'(by lia))
  ·rw[if_pos lt]
   exact hR x g1 (by lia) g2 fun _ _=>lt
  ·rw[if_neg lt]
   have ne:=qT nd hl (show lo+x - 1<(arrOf st').size by lia) (by lia)
   exact⟨rfl,rfl,by lia,DG g2 (by lia) hl (by lia)⟩
 ·obtain⟨rfl,rfl,g1,g2⟩:=hz
  exact hR nrem g1 (NC _) g2 fun h=>absurd h (OH _)
theorem uM {lo nrem:Nat}{st:N0} (c:Cmp prog w A s κ P kk) (o:Ok κ P kk st) (hn:lo+nrem<=(arrOf st).size) (h1:1<=nrem)
  (h:∀n a' st' S,1<=n->n<=nrem->Arr st st' a'->Prt (arrOf st) a' lo n S->Srt kk S->Q (some n) st'):Gv prog w A E s (countRun' lo nrem) st Q:=by
 have F:∀(st:N0),Ok κ P kk st->lo+nrem<=(arrOf st).size->∀n,1<=n->lo+n<(arrOf st).size->∀{T:Option Bool->N0->Prop},(∀(hl:lo+n<(arrOf st).size),T (some (decide (kk (arrOf st)[lo+n]<kk ((arrOf st)[lo+n - 1]'(by lia))))) st)->Gv prog w A E s (ltAt' (lo+n) (lo+n - 1)) st T:=fun st o hn n h1 hl T hT=>Gv.ltAt c o hl (by lia) (hT hl)
 with_unfolding_all refine Gv.bind ?_
 refine vv hn o.nd (NC _) h1 (DK (by lia)) (fun x n T g1 hl hT=>?_) (fun n g1 g2 g3 g4=>?_)
 ·refine Gv.bind (F st o hn n g1 hl fun hl=>?_)
  dsimp only
  by_cases lt:kk (arrOf st)[lo+n]<kk ((arrOf st)[lo+n - 1]'(by lia))
  ·rw[decide_eq_true lt];rw[if_pos lt] at hT;exact Gv.pure hT
  ·rw[decide_eq_false lt];rw[if_neg lt] at hT;exact Gv.pure hT
 refine bB (fun e=>?_) (fun e=>?_)
 ·exact Gv.pure (h n _ st _ g1 g2 Arr.refl Prt.refl g3)
 have e':¬ n=nrem:=by simp_all
 refine bB (fun e2=>?_) (fun e2=>?_)
 ·-- it rose
  refine Gv.bind (Gv.ltAt c o (show lo<(arrOf st).size by lia) (show lo+n - 1<(arrOf st).size by lia) ?_)
  have lt:kk (arrOf st)[lo]<kk (arrOf st)[lo+n - 1]:=kU (by lia) g3 (NC _) (by lia) (by lia)
  rw[decide_eq_true lt]
  dsimp only
  exact Gv.pure (h n _ st _ g1 g2 Arr.refl Prt.refl g3)
 have n1:n=1:=by lia
 subst n1
 refine Gv.bind (Gv.rule ?_)
 have d2:Dsc kk (seg (arrOf st) lo 2):=by
  have l:=g4 (by lia) (by lia)
  refine yk (n:=1) ?_ (NC _) (by lia) l
  rw[jb (n:=0) (by lia)]
  have e0:seg (arrOf st) lo 0=[]:=by rfl
  rw[e0];exact OS _ _
 refine Gv.bind (Gv.mono (Q:=fun z st'=>st'=st/\∃m,z=(none,m,0)/\2<=m/\m<=nrem/\Dsc kk (seg (arrOf st) lo m)) (Gv.sU (fun x z st'=>st'=st/\z=(none,x,0)/\2<=x/\Dsc kk (seg (arrOf st) lo x)) (by lia) ⟨rfl,rfl,by lia,d2⟩ (fun x z st' hx hz=>?_) (fun z st' hz=>?_)) (fun z st' hz=>?_))
 ·obtain⟨rfl,rfl,q1,q2⟩:=hz
  have hl:lo+x<(arrOf st').size:=by lia
  refine Gv.bind (F st' o hn x (by lia) hl fun hl=>?_)
  dsimp only
  by_cases lt:kk (arrOf st')[lo+x]<kk ((arrOf st')[lo+x - 1]'(by lia))
  ·rw[decide_eq_true lt,if_pos rfl,if_neg (by lia)]
   exact Gv.pure ⟨rfl,rfl,by lia,yk q2 (by lia) hl lt⟩
  ·rw[decide_eq_false lt,if_neg (by decide)]
   have ne:=qT o.nd hl (show lo+x - 1<(arrOf st').size by lia) (by lia)
   have gt:kk ((arrOf st')[lo+x - 1]'(by lia))<kk (arrOf st')[lo+x]:=by lia
   refine Gv.bind (Gv.ltAt c o (show lo+x - 1<(arrOf st').size by lia) hl ?_)
   rw[decide_eq_true gt]
   dsimp only
   rw[if_pos rfl]
   exact Gv.pure ⟨rfl,x,rfl,q1,by lia,q2⟩
 ·simp_all
 ·obtain⟨rfl,m,rfl,q1,q2,q3⟩:=hz
  dsimp only
  rw[if_neg (by lia)]
  have pr:Prt (arrOf st') (mirror (arrOf st') lo (lo+m) ((lo+m - lo) / 2)) lo m (seg (arrOf st') lo m).reverse:=by
   refine⟨?_,List.reverse_perm _⟩
   have:=vx (a:=arrOf st') (show lo<=lo+m by lia) (by lia)
   simp_all
  have sr:Srt kk (seg (arrOf st') lo m).reverse:=by unfold Srt;rw[List.pairwise_reverse];exact q3
  with_unfolding_all refine Gv.bind (Gv.n_ fun st2 g=>?_)
  have r2:Arr st' st2 (mirror (arrOf st') lo (lo+m) ((lo+m - lo) / 2)):=⟨by rw[g],by rw[g],by rw[g],by rw[g];rfl⟩
  clear g
  have o2:=r2.ok o pr
  have hs2:(arrOf st2).size=(arrOf st').size:=by rw[r2.arr];exact pr.size
  have sg:seg (arrOf st2) lo m=(seg (arrOf st') lo m).reverse:=by rw[r2.arr];exact pr.seg (by lia)
  refine Gv.bind ?_
  refine vv (st:=st2) (lo:=lo) (n0:=m) (by lia) o2.nd (by lia) q2 (by simp_all) (fun x n T z1 hl hT=>?_) (fun n z1 z2 z3 z4=>?_)
  ·refine Gv.bind (F st2 o2 (by lia) n z1 hl fun hl=>?_)
   dsimp only
   by_cases lt:kk (arrOf st2)[lo+n]<kk ((arrOf st2)[lo+n - 1]'(by lia))
   ·rw[decide_eq_true lt,if_pos rfl];rw[if_pos lt] at hT;exact Gv.pure hT
   ·rw[decide_eq_false lt,if_neg (by decide)];rw[if_neg lt] at hT;exact Gv.pure hT
  ·dsimp only
   refine Gv.pure (h n _ st2 (seg (arrOf st2) lo n) (by lia) z2 r2 ?_ z3)
   rw[r2.arr]
   -- the longer part
   refine⟨?_,?_⟩
   ·have e0:=f6 (mirror (arrOf st') lo (lo+m) ((lo+m - lo) / 2)) lo n
    rw[e0]
    congr 1
    ·congr 1
     rw[pr.eq,Oj,Qo (by grind),List.take_take,Nat.min_self]
    ·rw[pr.eq]
     have hl:(T3 lo (arrOf st').toList++(seg (arrOf st') lo m).reverse).length=lo+m:=by rw[N2,Oa,NO,RG,dD (by lia)];lia
     rw[List.drop_append,Q8 (by lia),PJ,hl,QK]
     simp_all
   ·have sp1:=de (mirror (arrOf st') lo (lo+m) ((lo+m - lo) / 2)) lo n m z1
    have sp2:=de (arrOf st') lo n m z1
    have sg':seg (mirror (arrOf st') lo (lo+m) ((lo+m - lo) / 2)) lo m=(seg (arrOf st') lo m).reverse:=pr.seg (by lia)
    rw[sp1,sp2,sg']
    have tl:seg (mirror (arrOf st') lo (lo+m) ((lo+m - lo) / 2)) (lo+m) (n - m)=seg (arrOf st') (lo+m) (n - m):=by
     unfold seg
     congr 1
     rw[pr.eq]
     have hl:(T3 lo (arrOf st').toList++(L2.SM.seg (arrOf st') lo m).reverse).length=lo+m:=by rw[N2,Oa,NO,RG,dD (by lia)];lia
     grind
    grind
end
section
variable {prog:NW}{w:Oo}{A:Om}{E:NB->NF->Prop}{s:NF}{κ:Qz}{P:Of->Prop}{kk:Of->Int}
theorem Prt.head {i m lo:Nat} (p:Prt a a' i m S) (h1:lo<=i) (h3:i<=a.size):a'.toList.take lo=a.toList.take lo:=by
 rw[p.eq,Oj,Qo (by simp_all),List.take_take,Sx h1]
theorem Prt.tail (p:Prt a a' i m S) (h2:i+m<=hi) (h3:i+m<=a.size):a'.toList.drop hi=a.toList.drop hi:=by
 have hS:S.length=m:=by rw[p.perm.length_eq,dD h3]
 have hl:(T3 i a.toList++S).length=i+m:=by grind
 rw[p.eq,List.drop_append,Q8 (by lia),PJ,QK]
 simp_all
theorem Prt.widen {i m lo n:Nat} (p:Prt a a' i m S) (h1:lo<=i) (h2:i+m<=lo+n) (h3:lo+n<=a.size):Prt a a' lo n (L2.SM.seg a' lo n):=by
 have tk:=p.head h1 (by lia)
 have dp:=p.tail h2 (by lia)
 refine⟨by rw[<- tk,<- dp];exact f6 a' lo n,?_⟩
 have e:=p.all
 rw[f6 a' lo n,f6 a lo n,tk,dp,List.perm_append_right_iff,List.perm_append_left_iff] at e
 exact e
theorem Prt.trans {lo n:Nat} (p:Prt a a' lo n S) (q:Prt a' a'' lo n S') (h3:lo+n<=a.size):Prt a a'' lo n S':=by
 refine⟨?_,q.perm.trans (by rw[p.seg h3];exact p.perm)⟩
 rw[q.eq,p.head (NC _) (by lia),p.tail (NC _) h3]
theorem Ff {a a'':Array Of}{lo k l:Nat} (hk:lo+k<a.size) (hl:l<=k) (sr:Srt kk (seg a lo k)) (lt:∀i,(hi:lo+i<a.size)->i<l->kk a[lo+i]<kk a[lo+k]) (gt:∀i,(hi:lo+i<a.size)->l<=i->i<k->kk a[lo+k]<kk a[lo+i])
  (p:Prt a a'' (lo+l) (k - l+1) (a[lo+k]::seg a (lo+l) (k - l))):Srt kk (seg a'' lo (k+1)):=by
 have e1:=de a'' lo (k+1) l (by lia)
 have e2:seg a'' lo l=seg a lo l:=p.before (by lia) (by lia)
 have e3:=p.seg (by lia)
 rw[e1,e2,show k+1 - l=k - l+1 by lia,e3]
 have s1:=sr
 rw[de a lo k l hl] at s1
 have s2:=N9.mp s1
 refine N9.mpr ⟨s2.1,Ou.mpr ⟨fun y hy=>?_,s2.2.1⟩,fun x hx y hy=>?_⟩
 ·obtain⟨m,hm,m1,m2,rfl⟩:=ey (by lia) hy
  have:=gt (m - lo) (by lia) (by lia) (by lia)
  simpa [show lo+(m - lo)=m by lia] using this
 ·rcases NQ.mp hy with rfl | hy
  ·obtain⟨m,hm,m1,m2,rfl⟩:=ey (by lia) hx
   have:=lt (m - lo) (by lia) (by lia)
   simpa [show lo+(m - lo)=m by lia] using this
  ·exact s2.2.2 x hx y hy
theorem qo {lo n ok:Nat}{st:N0}{Q:Bool->N0->Prop} (c:Cmp prog w A s κ P kk) (o:Ok κ P kk st) (hn:lo+n<=(arrOf st).size) (h1:1<=ok) (h2:ok<=n) (s0:Srt kk (seg (arrOf st) lo ok))
  (h:∀a' st',Arr st st' a'->Prt (arrOf st) a' lo n (seg a' lo n)->Srt kk (seg a' lo n)->Q true st'):Gv prog w A E s (binarySort' lo n ok) st Q:=by
 with_unfolding_all refine Gv.bind ?_
 refine Gv.mono (Q:=fun z st'=>z=(none,())/\∃a',Arr st st' a'/\Prt (arrOf st) a' lo n (seg a' lo n)/\Srt kk (seg a' lo n)) (Gv.sU (fun x z st'=>z=(none,())/\∃a',Arr st st' a'/\Prt (arrOf st) a' lo n (seg a' lo n)/\Srt kk (seg a' lo x)/\1<=x) (by lia) ⟨rfl,_,Arr.refl,Prt.refl,by rw[Nat.max_eq_left h1];exact s0,by lia⟩ (fun k z st1 hk hz=>?_) (fun z st1 hz=>?_)) (fun z st1 hz=>?_)
 ·obtain⟨rfl,a1,r1,p1,g1,g2⟩:=hz
  have o1:=r1.ok o p1
  have hs1:(arrOf st1).size=(arrOf st).size:=by rw[r1.arr];exact p1.size
  have ha1:=r1.arr
  have hk1:lo+k<(arrOf st1).size:=by lia
  refine Gv.bind (Gv.mono (Q:=fun z st2=>st2=st1/\∃l r,z=(none,l,r)/\l<=k/\(∀i,(hi:lo+i<(arrOf st1).size)->i<l->kk (arrOf st1)[lo+i]<kk (arrOf st1)[lo+k])/\(∀i,(hi:lo+i<(arrOf st1).size)->l<=i->i<k->kk (arrOf st1)[lo+k]<kk (arrOf st1)[lo+i])) (Gv.range (fun m z st2=>st2=st1/\∃l r,z=(none,l,r)/\l<=r/\r<=k/\r - l<=m/\(∀i,(hi:lo+i<(arrOf st1).size)->i<l->kk (arrOf st1)[lo+i]<kk (arrOf st1)[lo+k])/\(∀i,(hi:lo+i<(arrOf st1).size)->r<=i->i<k->kk (arrOf st1)[lo+k]<kk (arrOf st1)[lo+i])) ⟨rfl,0,k,rfl,OU _,NC _,by lia,fun i hi z=>absurd z (RE _),fun i hi z1 z2=>by lia⟩ (fun x m z st2 hz=>?_) (fun z st2 hz=>?_)) (fun z st2 hz=>?_))
  ·obtain⟨rfl,l,r,rfl,b1,b2,b3,b4,b5⟩:=hz
   by_cases hl:l ≥ r
   ·rw[if_pos hl]
    have:l=r:=by lia
    subst this
    exact Gv.pure ⟨rfl,l,l,rfl,b2,b4,b5⟩
   ·rw[if_neg hl]
    have hm:lo+(l+r) / 2<(arrOf st2).size:=by lia
    have sr:∀{i j:Nat},(hij:i<j)->(hj:j<k)->kk ((arrOf st2)[lo+i]'(by lia))<kk ((arrOf st2)[lo+j]'(by lia)):=fun{i j} hij hj=>by
     have g1':Srt kk (seg (arrOf st2) lo k):=by rw[ha1];exact g1
     exact kU (by lia) g1' (by lia) (by lia) (by lia)
    refine Gv.bind (Gv.ltAt c o1 hk1 hm ?_)
    dsimp only
    by_cases lt:kk (arrOf st2)[lo+k]<kk (arrOf st2)[lo+(l+r) / 2]
    ·rw[decide_eq_true lt]
     refine Gv.pure ⟨rfl,l,(l+r) / 2,rfl,by lia,by lia,by lia,b4,fun i hi z1 z2=>?_⟩
     rcases Pe z1 with z | z
     ·have:=sr z z2;lia
     ·subst z;exact lt
    ·rw[decide_eq_false lt]
     have ne:=qT o1.nd hk1 hm (by lia)
     refine Gv.pure ⟨rfl,(l+r) / 2+1,r,rfl,by lia,by lia,by lia,fun i hi z1=>?_,b5⟩
     rcases Pe (show i<=(l+r) / 2 by lia) with z | z
     ·have:=sr z (show(l+r) / 2<k by lia);lia
     ·subst z;lia
  ·obtain⟨rfl,l,r,rfl,b1,b2,b3,b4,b5⟩:=hz
   have:l=r:=by lia
   subst this
   exact⟨rfl,l,l,rfl,b2,b4,b5⟩
  ·obtain⟨rfl,l,r,rfl,b2,b4,b5⟩:=hz
   have bl:=vN (a:=arrOf st2) (show lo+l<=lo+k by lia) hk1
   rw[show lo+k - (lo+l)=k - l by lia] at bl
   have p2:Prt (arrOf st2) (bubble (arrOf st2) (lo+k) (lo+k - (lo+l))) (lo+l) (k - l+1) ((arrOf st2)[lo+k]::seg (arrOf st2) (lo+l) (k - l)):=by
    refine⟨?_,?_⟩
    ·rw[show lo+k - (lo+l)=k - l by lia,bl,show lo+l+(k - l+1)=lo+k+1 by lia]
    ·rw[jb (by lia)]
     simp only[show lo+l+(k - l)=lo+k by lia]
     exact(QG _ _).symm
   with_unfolding_all refine Gv.bind (Gv.n_ fun st3 g=>?_)
   have r3:Arr st2 st3 (bubble (arrOf st2) (lo+k) (lo+k - (lo+l))):=⟨by rw[g],by rw[g],by rw[g],by rw[g];rfl⟩
   clear g
   have p3:=p2.widen (lo:=lo) (n:=n) (by lia) (by lia) (by lia)
   rw[ha1] at p3
   have p4:=p1.trans p3 hn
   rw[<- ha1] at p4
   refine Gv.pure ⟨rfl,_,⟨r3.kind.trans r1.kind,r3.fail.trans r1.fail,r3.pend.trans r1.pend,r3.arr⟩,p4,?_,by lia⟩
   exact Ff hk1 b2 (by rw[ha1];exact g1) b4 b5 p2
 ·obtain⟨rfl,a1,r1,p1,g1,g2⟩:=hz
  exact⟨rfl,a1,r1,p1,g1⟩
 ·obtain⟨rfl,a1,r1,p1,g1⟩:=hz
  dsimp only
  exact Gv.pure (h a1 st1 r1 p1 g1)
end
section
variable {prog:NW}{w:Oo}{A:Om}{E:NB->NF->Prop}{s:NF}{κ:Qz}{P:Of->Prop}{kk:Of->Int}
theorem Prt.after {i m lo n:Nat} (p:Prt a a' i m S) (h2:i+m<=lo) (h3:i+m<=a.size):L2.SM.seg a' lo n=L2.SM.seg a lo n:=by
 unfold L2.SM.seg
 rw[p.tail h2 h3]
noncomputable def Rn (kk:Of->Int) (a:Array Of):Nat->List (Nat × Nat × Nat)->Nat->Prop
 | s,[],lo=>s=lo
 | s,x::r,lo=>x.1=s/\1<=x.2.1/\Srt kk (seg a s x.2.1)/\Rn kk a (s+x.2.1) r lo
theorem Rn.le {a:Array Of}:∀{L:List (Nat × Nat × Nat)}{s lo:Nat},Rn kk a s L lo->s+L.length<=lo
 | [],s,lo,h=>by have:s=lo:=h;grind
 | x::r,s,lo,h=>by have:=Rn.le h.2.2.2;have:=h.2.1;grind
theorem Rn.app {a:Array Of}:∀{X Y:List (Nat × Nat × Nat)}{s lo:Nat},Rn kk a s (X++Y) lo↔∃m,Rn kk a s X m/\Rn kk a m Y lo
 | [],Y,s,lo=>⟨fun h=>⟨s,rfl,h⟩,fun⟨m,h1,h2⟩=>by have:s=m:=h1;simp_all⟩
 | x::X,Y,s,lo=>by
  constructor
  ·intro h
   obtain⟨m,h1,h2⟩:=Rn.app.mp h.2.2.2
   exact⟨m,⟨h.1,h.2.1,h.2.2.1,h1⟩,h2⟩
  ·intro⟨m,h1,h2⟩
   exact⟨h1.1,h1.2.1,h1.2.2.1,Rn.app.mpr ⟨m,h1.2.2.2,h2⟩⟩
theorem Rn.D8 {a a':Array Of}:∀{L:List (Nat × Nat × Nat)}{s lo:Nat},Rn kk a s L lo->(∀i k,s<=i->i+k<=lo->seg a' i k=seg a i k)->Rn kk a' s L lo
 | [],s,lo,h,_=>h
 | x::r,s,lo,h,e=>by
  have l:=Rn.le h.2.2.2
  refine⟨h.1,h.2.1,?_,Rn.D8 h.2.2.2 fun i k h1 h2=>e i k (by lia) h2⟩
  rw[e s x.2.1 (NC _) (by lia)];exact h.2.2.1
theorem Rn.pow {a:Array Of}:∀{L L':List (Nat × Nat × Nat)}{s lo:Nat},Rn kk a s L lo->L'.map (fun x=>(x.1,x.2.1))=L.map (fun x=>(x.1,x.2.1))->Rn kk a s L' lo
 | [],[],s,lo,h,_=>h
 | [],_::_,s,lo,h,e=>by simp at e
 | _::_,[],s,lo,h,e=>by simp at e
 | x::r,y::r',s,lo,h,e=>by
  simp only[NV,Ss,Prod.mk.injEq] at e
  obtain⟨⟨e1,e2⟩,e3⟩:=e
  refine⟨e1.trans h.1,by rw[e2];exact h.2.1,by rw[e2];exact h.2.2.1,?_⟩
  rw[e2];exact Rn.pow h.2.2.2 e3
structure J (κ) (P) (kk) (st0 st) (lo):Prop where
 ok:Ok κ P kk st
 perm:(arrOf st).toList.Perm (arrOf st0).toList
 runs:Rn kk (arrOf st) 0 (pendingOf st).toList lo
 le:lo<=(arrOf st).size
theorem J.size {st0 st:N0}{lo:Nat} (j:J κ P kk st0 st lo):(arrOf st).size=(arrOf st0).size:=by have:=j.perm.length_eq;omega
theorem jd {i lo:Nat}{st0 st:N0}{Q:Bool->N0->Prop} (c:Cmp prog w A s κ P kk) (j:J κ P kk st0 st lo) (hi:i+2<=(pendingOf st).size)
  (h:∀st',J κ P kk st0 st' lo->(pendingOf st').size+1=(pendingOf st).size->(∀q k,lo<=q->seg (arrOf st') q k=seg (arrOf st) q k)->Q true st'):Gv prog w A E s (mergeAt' i) st Q:=by
 have hl:i+2<=(pendingOf st).toList.length:=by simpa using hi
 obtain⟨X,x,y,Y,e,hX⟩:∃X x y Y,(pendingOf st).toList=X++x::y::Y/\X.length=i:=by
  refine⟨(pendingOf st).toList.take i,(pendingOf st).toList[i],(pendingOf st).toList[i+1],(pendingOf st).toList.drop (i+2),?_,by rw[Oa];lia⟩
  rw[<- Oh,<- Oh,P0]
 have rn:=j.runs
 rw[e] at rn
 obtain⟨m,r1,r2⟩:=Rn.app.mp rn
 obtain⟨x1,x2,x3⟩:=x
 obtain⟨y1,y2,y3⟩:=y
 obtain⟨q1,q2,q3,q4,q5,q6,q7⟩:=r2
 dsimp only at q1 q2 q3 q4 q5 q6 q7
 subst q1
 subst q4
 have l7:=q7.le
 have hs:=j.le
 have p1:(pendingOf st)[i]?=some (x1,x2,x3):=by rw[<- NP,e,NR (by lia),hX,Tj];rfl
 have p2:(pendingOf st)[i+1]?=some (x1+x2,y2,y3):=by rw[<- NP,e,NR (by lia),hX,Nat.add_sub_cancel_left];rfl
 refine xf c j.ok.kind j.ok.fail j.ok.all j.ok.nd p1 p2 q2 q5 (by lia) q3 q6 (fun st' M k1 f1 pd1 a1 pm sm=>?_)
 have pr:Prt (arrOf st) (arrOf st') x1 (x2+y2) M:=⟨by rw[<- S_];exact a1,pm⟩
 have pl:(pendingOf st').toList=X++(x1,x2+y2,x3)::Y:=by
  rw[pd1]
  have e1:(((pendingOf st).setIfInBounds i (x1,x2+y2,x3)).eraseIdxIfInBounds (i+1)).toList=((pendingOf st).toList.set i (x1,x2+y2,x3)).eraseIdx (i+1):=by simp
  rw[e1,e,<- hX]
  simp[List.eraseIdx_append]
  intro hh;lia
 refine h st' ⟨⟨k1,f1,pr.P j.ok.all,pr.nd j.ok.nd⟩,pr.all.trans j.perm,?_,by rw[pr.size];exact hs⟩ ?_ (fun q k hq=>pr.after (by lia) (by lia))
 ·rw[pl]
  refine Rn.app.mpr ⟨x1,r1.D8 fun i k h1 h2=>pr.before (by lia) h2,rfl,by show 1<=x2+y2;lia,?_,?_⟩
  ·show Srt kk (seg (arrOf st') x1 (x2+y2))
   rw[pr.seg (by lia)];exact sm
  ·show Rn kk (arrOf st') (x1+(x2+y2)) Y lo
   rw[<- S_]
   exact q7.D8 fun i k h1 h2=>pr.after (by lia) (by lia)
 ·have e1:(pendingOf st').size=(pendingOf st').toList.length:=by simp
  have e2:(pendingOf st).size=(pendingOf st).toList.length:=by simp
  rw[e1,e2,pl,e];simp;lia
end
section
variable {prog:NW}{w:Oo}{A:Om}{E:NB->NF->Prop}{s:NF}{κ:Qz}{P:Of->Prop}{kk:Of->Int}
theorem J.part {st0 st st2:N0}{lo n:Nat} (j:J κ P kk st0 st lo) (r:Arr st st2 a2) (p:Prt (arrOf st) a2 lo n S) (hn:lo+n<=(arrOf st).size):J κ P kk st0 st2 lo:=by
 refine⟨r.ok j.ok p,by rw[r.arr];exact p.all.trans j.perm,?_,by rw[r.arr,p.size];lia⟩
 rw[r.arr,r.pend]
 exact j.runs.D8 fun i k h1 h2=>p.before hn h2
theorem J.push {st0 st st':N0}{lo n:Nat} (j:J κ P kk st0 st lo) (ek:kindOf st'=kindOf st) (ef:failedOf st'=failedOf st) (ea:arrOf st'=arrOf st) (ep:(pendingOf st').toList.map (fun x=>(x.1,x.2.1))=(pendingOf st).toList.map (fun x=>(x.1,x.2.1))++[(lo,n)]) (h1:1<=n) (hn:lo+n<=(arrOf st).size) (sr:Srt kk (seg (arrOf st) lo n)):J κ P kk st0 st' (lo+n):=by
 refine⟨⟨ek.trans j.ok.kind,ef.trans j.ok.fail,by rw[ea];exact j.ok.all,by rw[ea];exact j.ok.nd⟩,by rw[ea];exact j.perm,?_,by simp_all⟩
 rw[ea]
 refine Rn.pow (L:=(pendingOf st).toList++[(lo,n,0)]) (Rn.app.mpr ⟨lo,j.runs,rfl,h1,sr,rfl⟩) ?_
 simp_all
theorem vz (p:Array (Nat × Nat × Nat)) (i pw lo:Nat) (n:Nat):((p.modify i fun x=>(x.1,x.2.1,pw)).push (lo,n,0)).toList.map (fun x=>(x.1,x.2.1))=p.toList.map (fun x=>(x.1,x.2.1))++[(lo,n)]:=by
 rw[R4,Q0]
 congr 1
 apply Qc
 intro k
 rw[NU,NU,NP,NP,Array.getElem?_modify]
 split
 ·cases p[k]?<;>rfl
 ·rfl
theorem uS (p:Array (Nat × Nat × Nat)) (lo n):(p.push (lo,n,0)).toList.map (fun x=>(x.1,x.2.1))=p.toList.map (fun x=>(x.1,x.2.1))++[(lo,n)]:=by
 simp
theorem u6 {st:N0}{Q:Unit->N0->Prop} (c:Cmp prog w A s κ P kk) (o:Ok κ P kk st) (hp:pendingOf st = #[]) (h:∀st',failedOf st'=none->(arrOf st').toList.Perm (arrOf st).toList->Srt kk (arrOf st').toList->Q () st'):Gv prog w A E s sortRuns' st Q:=by
 have j0:J κ P kk st st 0:=⟨o,.refl _,by rw[hp];rfl,OU _⟩
 with_unfolding_all refine Gv.bind (Gv.get ?_)
 refine Gv.bind (Gv.mono (Q:=fun z st'=>∃lo,z=(none,lo)/\J κ P kk st st' (arrOf st).size) (Gv.range (fun m z st'=>∃lo,z=(none,lo)/\J κ P kk st st' lo/\(arrOf st).size<=lo+m) ⟨0,rfl,j0,by show(arrOf st).size<=0+((arrOf st).size - 0);lia⟩ (fun x m z st1 hz=>?_) (fun z st1 hz=>?_)) (fun z st1 hz=>?_))
 ·obtain⟨lo,rfl,j1,pr⟩:=hz
  have sz1:=j1.size
  have le1:=j1.le
  by_cases hl:lo ≥ (arrOf st).size
  ·rw[if_pos hl]
   have:lo=(arrOf st).size:=by lia
   subst this
   exact Gv.pure ⟨_,rfl,j1⟩
  rw[if_neg hl]
  refine Gv.bind (uM c j1.ok (nrem:=(arrOf st).size - lo) (by lia) (by lia) (fun n a2 st2 S n1 n2 r2 p2 sS=>?_))
  have j2:=j1.part r2 p2 (by lia)
  have s2:Srt kk (seg (arrOf st2) lo n):=by rw[r2.arr,p2.seg (by lia)];exact sS
  have sz2:=j2.size
  dsimp only
  generalize hmr:(minRun' (arrOf st).size (arrOf st).size 0)=mr
  by_cases lt:n<mr
  ·rw[<- hmr] at lt
   refine bB (fun lt'=>?_) (fun nl=>absurd lt nl)
   refine Gv.bind (Gv.rule ?_)
   refine Gv.bind (qo c j2.ok (n:=min ((arrOf st).size - lo) (minRun' (arrOf st).size (arrOf st).size 0)) (by lia) n1 (by rw[hmr];lia) s2 (fun a3 st3 r3 p3 s3=>?_))
   have hN1:1<=(min ((arrOf st).size - lo) (minRun' (arrOf st).size (arrOf st).size 0)):=by rw[hmr];lia
   have hN2:lo+(min ((arrOf st).size - lo) (minRun' (arrOf st).size (arrOf st).size 0))<=(arrOf st).size:=by lia
   have jX:J κ P kk st st3 lo:=j2.part r3 p3 (by lia)
   have sX:Srt kk (seg (arrOf st3) lo (min ((arrOf st).size - lo) (minRun' (arrOf st).size (arrOf st).size 0))):=by rw[r3.arr];exact s3
   refine Gv.bind (Gv.get ?_)
   split
   ·refine Gv.bind (Gv.mono (Q:=fun z st4=>z=(none,())/\J κ P kk st st4 lo/\Srt kk (seg (arrOf st4) lo (min ((arrOf st).size - lo) (minRun' (arrOf st).size (arrOf st).size 0)))) (Gv.range (fun m z st4=>z=(none,())/\J κ P kk st st4 lo/\Srt kk (seg (arrOf st4) lo (min ((arrOf st).size - lo) (minRun' (arrOf st).size (arrOf st).size 0)))) ⟨rfl,jX,sX⟩ (fun x m z st4 hz=>?_) (fun z st4 hz=>hz)) (fun z st4 hz=>?_))
    ·obtain⟨rfl,j4,s4⟩:=hz
     refine Gv.bind (Gv.get ?_)
     by_cases h2:(pendingOf st4).size > 1
     ·rw[if_pos h2]
      split
      ·refine bB (fun _=>Gv.pure ⟨rfl,j4,s4⟩) (fun _=>?_)
       refine Gv.bind (jd (i:=(pendingOf st4).size - 2) c j4 (by lia) (fun st5 j5 _ e5=>?_))
       exact Gv.pure ⟨rfl,j5,by rw[e5 lo (min ((arrOf st).size - lo) (minRun' (arrOf st).size (arrOf st).size 0)) (NC _)];exact s4⟩
      ·exact Gv.pure ⟨rfl,j4,s4⟩
     ·rw[if_neg h2]
      exact Gv.pure ⟨rfl,j4,s4⟩
    ·obtain⟨rfl,j4,s4⟩:=hz
     dsimp only
     refine Gv.bind (Gv.n_ fun st5 g5=>?_)
     refine Gv.bind (Gv.n_ fun st6 g6=>?_)
     have j6:J κ P kk st st6 (lo+(min ((arrOf st).size - lo) (minRun' (arrOf st).size (arrOf st).size 0))):=by
      refine j4.push (by rw[g6,g5]) (by rw[g6,g5]) (by rw[g6,g5]) ?_ hN1 (by have:=j4.size;lia) s4
      rw[g6,g5]
      exact vz _ _ _ _ _
     exact Gv.pure ⟨lo+(min ((arrOf st).size - lo) (minRun' (arrOf st).size (arrOf st).size 0)),rfl,j6,by lia⟩
   ·refine Gv.bind (Gv.n_ fun st6 g6=>?_)
    have j6:J κ P kk st st6 (lo+(min ((arrOf st).size - lo) (minRun' (arrOf st).size (arrOf st).size 0))):=by
     refine jX.push (by rw[g6]) (by rw[g6]) (by rw[g6]) ?_ hN1 (by have:=jX.size;lia) sX
     rw[g6]
     exact uS _ _ _
    exact Gv.pure ⟨lo+(min ((arrOf st).size - lo) (minRun' (arrOf st).size (arrOf st).size 0)),rfl,j6,by lia⟩
  ·rw[<- hmr] at lt
   refine bB (fun lt'=>absurd lt' lt) (fun nl=>?_)
   have jX:=j2
   have sX:=s2
   have hN1:1<=n:=n1
   have hN2:lo+n<=(arrOf st).size:=by lia
   refine Gv.bind (Gv.get ?_)
   split
   ·refine Gv.bind (Gv.mono (Q:=fun z st4=>z=(none,())/\J κ P kk st st4 lo/\Srt kk (seg (arrOf st4) lo n)) (Gv.range (fun m z st4=>z=(none,())/\J κ P kk st st4 lo/\Srt kk (seg (arrOf st4) lo n)) ⟨rfl,jX,sX⟩ (fun x m z st4 hz=>?_) (fun z st4 hz=>hz)) (fun z st4 hz=>?_))
    ·obtain⟨rfl,j4,s4⟩:=hz
     refine Gv.bind (Gv.get ?_)
     by_cases h2:(pendingOf st4).size > 1
     ·rw[if_pos h2]
      split
      ·refine bB (fun _=>Gv.pure ⟨rfl,j4,s4⟩) (fun _=>?_)
       refine Gv.bind (jd (i:=(pendingOf st4).size - 2) c j4 (by lia) (fun st5 j5 _ e5=>?_))
       exact Gv.pure ⟨rfl,j5,by rw[e5 lo n (NC _)];exact s4⟩
      ·exact Gv.pure ⟨rfl,j4,s4⟩
     ·rw[if_neg h2]
      exact Gv.pure ⟨rfl,j4,s4⟩
    ·obtain⟨rfl,j4,s4⟩:=hz
     dsimp only
     refine Gv.bind (Gv.n_ fun st5 g5=>?_)
     refine Gv.bind (Gv.n_ fun st6 g6=>?_)
     have j6:J κ P kk st st6 (lo+n):=by
      refine j4.push (by rw[g6,g5]) (by rw[g6,g5]) (by rw[g6,g5]) ?_ hN1 (by have:=j4.size;lia) s4
      rw[g6,g5]
      exact vz _ _ _ _ _
     exact Gv.pure ⟨lo+n,rfl,j6,by lia⟩
   ·refine Gv.bind (Gv.n_ fun st6 g6=>?_)
    have j6:J κ P kk st st6 (lo+n):=by
     refine jX.push (by rw[g6]) (by rw[g6]) (by rw[g6]) ?_ hN1 (by have:=jX.size;lia) sX
     rw[g6]
     exact uS _ _ _
    exact Gv.pure ⟨lo+n,rfl,j6,by lia⟩
 ·obtain⟨lo,rfl,j1,pr⟩:=hz
  have:=j1.le
  have:=j1.size
  have e:lo=(arrOf st).size:=by lia
  subst e
  exact⟨_,rfl,j1⟩
 ·obtain⟨lo,rfl,j1⟩:=hz
  dsimp only
  have ps:(pendingOf st1).size<=(arrOf st).size:=by have:=j1.runs.le;simpa using this
  refine Gv.bind (Gv.mono (Q:=fun z st4=>z=(none,())/\J κ P kk st st4 (arrOf st).size/\(pendingOf st4).size<=1) (Gv.range (fun m z st4=>z=(none,())/\J κ P kk st st4 (arrOf st).size/\(pendingOf st4).size<=m+1) ⟨rfl,j1,by show(pendingOf st1).size<=(arrOf st).size - 0+1;lia⟩ (fun x m z st4 hz=>?_) (fun z st4 hz=>?_)) (fun z st4 hz=>?_))
  ·obtain⟨rfl,j4,l4⟩:=hz
   refine Gv.bind (Gv.get ?_)
   by_cases h1:(pendingOf st4).size<=1
   ·rw[if_pos h1]
    exact Gv.pure ⟨rfl,j4,h1⟩
   ·rw[if_neg h1]
    refine Gv.bind (jd c j4 ?_ (fun st5 j5 e5 _=>?_))
    ·have g:∀(c:Prop) [Decidable c],(if c then (pendingOf st4).size - 2 - 1 else (pendingOf st4).size - 2)+2<=(pendingOf st4).size:=fun c _=>by split<;>lia
     exact g _
    ·exact Gv.pure ⟨rfl,j5,by lia⟩
  ·obtain⟨rfl,j4,l4⟩:=hz
   exact⟨rfl,j4,by lia⟩
  ·obtain⟨rfl,j4,l4⟩:=hz
   dsimp only
   refine Gv.pure (h st4 j4.ok.fail j4.perm ?_)
   have rn:=j4.runs
   have sz:=j4.size
   have l5:(pendingOf st4).toList.length<=1:=by simpa using l4
   cases e:(pendingOf st4).toList with
   | nil=>
    rw[e] at rn
    have:0=(arrOf st).size:=rn
    have e2:(arrOf st4).toList=[]:=Q1.mp (by rw[NO];lia)
    rw[e2];exact Rg
   | cons x r=>
    rw[e] at rn l5
    have:r=[]:=Q1.mp (by rw[OO] at l5;lia)
    subst this
    obtain⟨r1,r2,r3,r4⟩:=rn
    have r4:0+x.2.1=(arrOf st).size:=r4
    have e2:seg (arrOf st4) 0 x.2.1=(arrOf st4).toList:=by
     unfold seg
     rw[SJ,OX (by rw[NO];lia)]
    rw[e2] at r3
    exact r3
end
end L2.SM
namespace L2.Srt
open PySem PySem.W PyProof.Rows PySem.Calls L2.SM
section
variable {prog:NW}{w:Oo}{A:Om}{E:NB->NF->Prop}{s:NF}{a:Addr}{vs:List NB}
theorem ku (vs:List NB):(vs.toArray.zip vs.toArray).toList=vs.map fun v=>(v,v):=by
 simp only[Array.toList_zip]
 induction vs with
 | nil=>rfl
 | cons v vs ih=>simp_all
noncomputable abbrev yx (prog:NW) (w:Oo) (A:Om) (s:NF) (vs:List NB) (κ:Qz) (R:List NB->Prop):Prop:=∀E,Gv prog w A E s sortRuns' (Te κ (vs.toArray.zip vs.toArray) #[] 7 none) fun _ st'=>failedOf st'=none/\((arrOf st').map (·.2)).size=vs.length/\R ((arrOf st').map (·.2)).toList
theorem j8 {n:Nat}{R:List NB->Prop}{P:T1->NF->Prop} (ho:s.heap.get? a=some (seqObj "list" vs.toArray n)) (h2:2<=vs.length) (hz:vs.length<=100000)
  (hk:wpAny (model prog w) A (keyKind' vs.toArray) (fun κ s'=>s'={ s with heap:=dC s.heap a vs }/\yx prog w A { s with heap:=dC s.heap a vs } vs κ R) (fun _ _=>False) { s with heap:=dC s.heap a vs })
  (h:∀out:List NB,R out->P (.done (.ret .none)) { s with heap:=sortedHeap s.heap a vs out.toArray }) :
  wpAny (model prog w) A (OJ.«list.sort» ⟨[.ref a],[]⟩) P E s:=by
 obtain⟨e1,ho1⟩:∃e1,(s.heap.update a (Qs fun _=>(#[]:Array NB))).get? a=some (seqObj "list" #[] e1):=⟨_,get?_update_seq ho fun _=>#[]⟩
 have hm:(dC s.heap a vs).get? a=some (seqObj "list" #[] e1):=k5 _ (k5 _ ho1)
 rw[list_sort_plain]
 refine k3 (listItems_at ho rfl ?_)
 refine k3 (R_ ho rfl ?_ (by rw[N5,O5];lia) (OU _))
 refine k3 (SR ho1 rfl ?_)
 refine k3 (wpAny_newTuple ?_ (by show vs.length<=_;rw[O5];lia))
 refine k3 (Rz ?_ (OU _))
 refine OR ?_
 have hn2:¬ vs.toArray.size<2:=by rw[N5];lia
 rw[if_neg hn2,if_neg hn2]
 refine k3 (OW hk (fun κ s0 hk=>?_) fun _ _ x=>x.elim)
 obtain⟨rfl,cm⟩:=hk
 refine k3 (OW (cm _) ?_ fun _ _ e=>e)
 rintro⟨⟨⟩,st'⟩ s' ⟨rfl,hf,hsz,sr⟩
 refine k3 (SR hm rfl ?_)
 refine k3 (R_ hm rfl ?_ (OU _) (N4 (Th hsz) (by rw[O5];lia)))
 rw[hf]
 simp only[bne_self_eq_false]
 have:=h _ sr
 exact td this
theorem wL (hl:s.heap.IsList l vs.toArray) (h2:2<=vs.length) (hz:vs.length<=100000)
  (hk:wpAny (model prog w) A.in1.in1 (keyKind' vs.toArray) (fun κ s'=>s'={ s with heap:=dC (fN s.heap vs) (s.heap.objs.size+1) vs }/\yx prog w A.in1.in1 { s with heap:=dC (fN s.heap vs) (s.heap.objs.size+1) vs } vs κ R) (fun _ _=>False) { s with heap:=dC (fN s.heap vs) (s.heap.objs.size+1) vs })
  (h:∀out:List NB,R out->Q (.ref (s.heap.objs.size+1)) { s with heap:=sortedAll s.heap vs out.toArray }) :
  wpAny (model prog w) A (call (.builtin "sorted") [.ref l]) Q E s:=by
 refine Calls.call_function_entry kind_sorted plain_sorted entry_sorted (args_sorted1 _) ?_
 refine k3 (td ?_)
 refine k3 (collect_list hl ?_ (by rw[O5];lia))
 refine k3 (Rz ?_ (by rw[O5];lia))
 have hsz:((s.heap.push (seqObj "list" #[] 0)).update s.heap.objs.size (Qs (·++vs.toArray))).objs.size=s.heap.objs.size+1:=by
  simp
 have hoL:(fN s.heap vs).get? (s.heap.objs.size+1)=some (seqObj "list" vs.toArray 0):=by
  unfold fN;rw[<- hsz];exact NH _ rfl
 rw[hsz]
 refine k3 (OR (O0 slot_list_sort ⟨_,hoL,rfl⟩ entry_list_sort (j8 (s:={ s with heap:=fN s.heap vs }) hoL h2 hz hk fun out sr=>⟨_,rfl,?_⟩) (args_list_sort _)))
 exact td ⟨_,rfl,h out sr⟩
theorem DA {kv:NB->Int} (cm:Cmp prog w A s κ (fun x=>x.1∈vs/\x.2=x.1) (fun x=>kv x.1)) (nd:(vs.map kv).Nodup):yx prog w A s vs κ fun out=>out.Perm vs/\out.Pairwise fun x y=>kv x<kv y:=by
 intro E
 have zl:=ku vs
 have ok:Ok κ (fun x:Of=>x.1∈vs/\x.2=x.1) (fun x=>kv x.1) (Te κ (vs.toArray.zip vs.toArray) #[] 7 none):=by
  refine⟨rfl,rfl,fun x hx=>?_,?_⟩
  ·have hx:=Pf.mpr hx
   rw[zl] at hx
   obtain⟨v,hv,rfl⟩:=Oi.mp hx
   exact⟨hv,rfl⟩
  ·show((vs.toArray.zip vs.toArray).toList.map _).Nodup
   rw[zl,ON];exact nd
 refine u6 cm ok rfl (fun st' f1 pm sr=>?_)
 have p1:((arrOf st').map (·.2)).toList.Perm vs:=by
  have:=pm.map (fun x:Of=>x.2)
  rw[Sh]
  refine this.trans ?_
  rw[zl,ON]
  have:((fun x:Of=>x.2) ∘ fun v=>(v,v))=(id:NB->NB):=rfl
  rw[this,List.map_id]
 refine⟨f1,by have:=p1.length_eq;simpa using this,p1,?_⟩
 rw[Sh,OT]
 refine QU ?_ sr
 intro x y hx hy lt
 have gx:∀z:Of,z∈(arrOf st').toList->z.2=z.1:=fun z hz=>by
  have hz:=pm.mem_iff.mp hz
  rw[zl] at hz
  obtain⟨v,_,rfl⟩:=Oi.mp hz
  rfl
 rw[gx x hx,gx y hy];exact lt
end
noncomputable def kT:Nat->List Int->Int
 | 0,_=>0
 | _+1,[]=>0
 | n+1,x::r=>(x+1)*100 ^ n+kT n r
noncomputable def qe:List Int->List Int->Bool
 | [],ys=>decide (0<ys.length)
 | _::_,[]=>false
 | x::xs,y::ys=>if x=y then qe xs ys else decide (x<y)
noncomputable def Bd (xs:List Int):Prop:=∀x∈xs,0<=x/\x<=98
theorem uF:∀(n:Nat){xs:List Int},Bd xs->0<=kT n xs/\kT n xs<100 ^ n
 | 0,xs,_=>by unfold kT;lia
 | n+1,[],_=>by unfold kT;exact⟨P2 _,Sb (by decide)⟩
 | n+1,x::r,b=>by
  have h:=uF n fun y hy=>b y (ox _ hy)
  have hx:=b x NG
  unfold kT
  have q1:0<=(x+1)*100 ^ n:=Int.mul_nonneg (by lia) (by lia)
  have q2:(x+1)*100 ^ n<=99*100 ^ n:=OV (by lia) (by lia)
  lia
theorem Bt:∀(n:Nat){xs ys:List Int},Bd xs->Bd ys->xs.length<=n->ys.length<=n->qe xs ys=decide (kT n xs<kT n ys)
 | n,[],[],_,_,_,_=>by cases n<;>simp[qe]
 | 0,[],y::ys,_,_,_,h=>by simp at h
 | 0,x::xs,ys,_,_,h,_=>by simp at h
 | n+1,[],y::ys,_,by_,_,_=>by
  have h:=(uF n fun z hz=>by_ z (ox _ hz)).1
  have hy:=by_ y NG
  have p:(0:Int)<100 ^ n:=Sb (by decide)
  have q:0<(y+1)*100 ^ n:=Int.mul_pos (by lia) p
  unfold qe kT
  grind
 | n+1,x::xs,[],bx,_,_,_=>by
  have h:=(uF n fun z hz=>bx z (ox _ hz)).1
  have hx:=bx x NG
  have p:(0:Int)<100 ^ n:=Sb (by decide)
  have q:0<(x+1)*100 ^ n:=Int.mul_pos (by lia) p
  unfold qe kT
  grind
 | n+1,x::xs,y::ys,bx,by_,lx,ly=>by
  have ih:=Bt n (fun z hz=>bx z (ox _ hz)) (fun z hz=>by_ z (ox _ hz)) (by simp_all) (by simp_all)
  have hX:=uF n fun z hz=>bx z (ox _ hz)
  have hY:=uF n fun z hz=>by_ z (ox _ hz)
  unfold qe kT
  by_cases e:x=y
  ·simp_all
  ·rw[if_neg e]
   by_cases z:x<y
   ·have:(x+1+1)*100 ^ n<=(y+1)*100 ^ n:=OV (by lia) (by lia)
    grind
   ·have:(y+1+1)*100 ^ n<=(x+1)*100 ^ n:=OV (by lia) (by lia)
    grind
section
variable {prog:NW}{w:Oo}{A:Om}{E:NB->NF->Prop}{s:NF}
theorem vk {fin:Bool}{Q:Bool->NF->Prop}:∀{us vs:List NB}{xs ys:List Int} (i:Nat),Rf us xs->Rf vs ys->fin=decide (xs.length<ys.length)->Q (qe xs ys) s->KatLex prog w A true fin Q (us.zip vs) i s
 | _,_,_,_,i,.nil,.nil,e,h=>by subst e;assumption
 | _,_,_,_,i,.nil,.cons y t r,e,h=>by subst e;assumption
 | _,_,_,_,i,.cons x t r,.nil,e,h=>by subst e;assumption
 | _,_,_,_,i,.cons x t r,.cons y u r',e,h=>by
  refine kat_cons (wpAny_eqBool_int (kat_go (fun e1=>kat_yes ?_) (fun e1=>kat_no ?_)))
  ·have e1:x=y:=by simp_all
   refine vk (i+1) r r' ?_ ?_
   ·rw[e];simp
   ·unfold qe at h;simp_all
  ·have e1:¬ x=y:=by simp_all
   unfold qe at h
   rw[if_neg e1] at h
   cases i with
   | zero=>exact oneLt_int h
   | succ i=>
    have:((true&&(i+1 == 0)):Bool)=false:=by simp
    exact kat_one _ _ (lt_int h)
end
inductive Tps (h:Heap):List NB->List (List Int)->Prop
 | nil:Tps h [] []
 | cons {us:Array NB} {xs:List Int} {vs:List NB} {xss:List (List Int)}:h.get? a=some o->o.cls=.type "tuple" -> o.data=.seq us k->Rf us.toList xs->Tps h vs xss->Tps h (.ref a::vs) (xs::xss)
noncomputable def kvH (h:Heap):NB->Int
 | .ref a=>match h.get? a with
  | some o=>match o.data with
   | .seq us _=>kT 20 (us.toList.map numOf)
   | _=>0
  | none=>0
 | _=>0
section
variable {prog:NW}{w:Oo}{A:Om}{E:NB->NF->Prop}{s:NF}{vs:List NB}{xss:List (List Int)}{h h':Heap}
theorem Tps.len (r:Tps h vs xss):vs.length=xss.length:=by
 induction r with
 | nil=>rfl
 | cons _ _ _ _ _ ih=>simp[ih]
theorem Tps.keeps (r:Tps h vs xss) (k:∀b o,h.get? b=some o->h'.get? b=some o):Tps h' vs xss:=by
 induction r with
 | nil=>exact .nil
 | cons a b c d _ ih=>exact .cons (k _ _ a) b c d ih
theorem Tps.kv (r:Tps h vs xss):vs.map (kvH h)=xss.map (kT 20):=by
 induction r with
 | nil=>rfl
 | @cons a o k us xs vs xss ha hc hd hi r ih=>
  rw[NV]
  congr 1
  unfold kvH
  simp only[ha,hd,hi.nums]
theorem Tps.mem (r:Tps h vs xss){v:NB} (hv:v∈vs):∃a o k us xs,v=.ref a/\h.get? a=some o/\o.data=.seq us k/\Rf us.toList xs/\xs∈xss/\kvH h v=kT 20 xs:=by
 induction r with
 | nil=>cases hv
 | @cons a o k us xs vs xss ha hc hd hi r ih=>
  rcases NQ.mp hv with rfl | hv
  ·refine⟨a,o,k,us,xs,rfl,ha,hd,hi,NG,?_⟩
   unfold kvH
   simp only[ha,hd,hi.nums]
  ·obtain⟨a',o',k',us',xs',e1,e2,e3,e4,e5,e6⟩:=ih hv
   exact⟨a',o',k',us',xs',e1,e2,e3,e4,ox _ e5,e6⟩
theorem Tps.jL (r:Tps h vs xss) (ne:∀xs∈xss,xs≠[]):∃fs,KatTups h vs fs/\fs.length=xss.length/\∀v∈fs,∃x t,v=Qm x t:=by
 induction r with
 | nil=>exact⟨[],KatTups.nil,rfl,by simp⟩
 | @cons a o k us xs vs xss ha hc hd hi r ih=>
  obtain⟨fs,q1,q2,q3⟩:=ih fun xs hx=>ne xs (ox _ hx)
  obtain⟨x,t,ul,e⟩:∃x t ul,us.toList=Qm x t::ul:=by
   have:=ne xs NG
   generalize us.toList=l at hi
   cases hi with
   | nil=>exact absurd rfl this
   | cons n t r=>exact⟨n,t,_,rfl⟩
  have e0:us[0]?=some (Qm x t):=by rw[<- NP,e];rfl
  refine⟨.int x t::fs,KatTups.cons ha hc hd e0 q1,by simp[q2],fun v hv=>?_⟩
  rcases NQ.mp hv with rfl | hv
  ·exact⟨x,t,rfl⟩
  ·exact q3 v hv
theorem By {β γ:Type}{f:β->γ}:∀{out m:List γ},out.Perm m->∀{l:List β},m=l.map f->∃q:List β,q.Perm l/\out=q.map f:=by
 intro out m h
 induction h with
 | nil=>simp
 | cons x _ ih=>
  intro l e
  cases l with
  | nil=>cases e
  | cons b l=>
   injection e with e1 e2
   obtain⟨q,hq,e3⟩:=ih e2
   exact⟨b::q,hq.cons b,by simp_all⟩
 | swap x y l'=>
  intro l e
  cases l with
  | nil=>cases e
  | cons b l=>
   cases l with
   | nil=>simp at e
   | cons c l=>
    simp only[NV,Ss] at e
    obtain⟨e1,e2,e3⟩:=e
    exact⟨c::b::l,Sw.swap _ _ _,by simp_all⟩
 | trans _ _ ih1 ih2=>
  intro l e
  obtain⟨q,hq,e2⟩:=ih2 e
  obtain⟨q',hq',e3⟩:=ih1 e2
  exact⟨q',hq'.trans hq,e3⟩
theorem range_getD {β:Type} (l) (d:β):l=(ND l.length).map fun i=>l.getD i d:=by
 apply QM (by simp)
 simp_all
theorem qU {Q:Qz->NF->Prop} (r:Tps s.heap vs xss) (ne:∀xs∈xss,xs≠[]) (bd:∀xs∈xss,Bd xs/\xs.length<=20) (h1:1<=xss.length)
  (h:∀κ,Cmp prog w A s κ (fun x=>x.1∈vs/\x.2=x.1) (fun x=>kvH s.heap x.1)->Q κ s):wpAny (model prog w) A (keyKind' vs.toArray) Q E s:=by
 obtain⟨fs,t,fl,fi⟩:=r.jL ne
 refine kat_kind (T:=.type "int") t (by lia) (fun v hv=>?_) (by decide +kernel) ?_
 ·obtain⟨x,tk,rfl⟩:=fi v hv
  exact .now
 ·rw[show(QC "int" != QC "tuple")=true by decide +kernel]
  refine h _ fun x y hx hy C hc=>?_
  obtain⟨a,oa,ka,ua,xa,e1,ga,da,ia,ma,va⟩:=r.mem hx.1
  obtain⟨b,ob,kb,ub,xb,e2,gb,db,ib,mb,vb⟩:=r.mem hy.1
  have hd:decide (kvH s.heap x.1<kvH s.heap y.1)=qe xa xb:=by
   simp only[va,vb]
   exact(Bt 20 (bd _ ma).1 (bd _ mb).1 (bd _ ma).2 (bd _ mb).2).symm
  rw[hd] at hc
  rw[e1,e2]
  refine kat_lt ga da gb db (vk 0 ia ib ?_ hc)
  have l1:ua.size=xa.length:=by rw[<- ia.nums,NJ,NO]
  have l2:ub.size=xb.length:=by rw[<- ib.nums,NJ,NO]
  rw[l1,l2]
end
end L2.Srt
namespace L2
open PySem PySem.Spec PyProof.Rows L2.Srt
inductive TpV (K) (H):List V->List (List Int)->Prop
 | nil:TpV K H [] []
 | cons {xs:List V} {xss:List (List Int)}:SqT K H a (ns.map V.int)->TpV K H xs xss->TpV K H (.ref a::xs) (ns::xss)
theorem TpV.len {K:gV} (r:TpV K H xs xss):xs.length=xss.length:=by
 induction r with
 | nil=>rfl
 | cons _ _ ih=>simp[ih]
theorem o9:∀{ns:List Int}{us:List NB},Vals (ns.map V.int) us->Rf us ns
 | [],_,.nil=>.nil
 | n::ns,_,.cons ⟨t,e⟩ r=>by subst e;exact .cons n t (o9 r)
section
variable {X:Cx}
theorem Inv.tps {σ:St} (I:Inv X pins σ H s) (r:TpV X.K H xs xss):∀{us:List NB},Vals xs us->Tps s.heap us xss:=by
 induction r with
 | nil=>intro us v;cases v;exact .nil
 | cons h _ ih=>
  intro us v
  cases v with
  | cons ru rv=>
   cases ru
   obtain⟨its,rt,pl,hz⟩:=I.tuple h
   obtain⟨o,ho,hc,n,hd⟩:=pl
   exact .cons ho hc hd (by simpa using o9 rt) (ih rv)
end
end L2
namespace L2.FE
open PySem PySem.Spec PyProof.Rows L2.Srt
noncomputable def xi (x:List Int):List (List Int)->List (List Int)
 | []=>[x]
 | y::r=>if kT 20 x<=kT 20 y then x::y::r else y::xi x r
noncomputable def oP:List (List Int)->List (List Int)
 | []=>[]
 | x::r=>xi x (oP r)
theorem mq (x:List Int):∀l,(xi x l).Perm (x::l)
 | []=>.refl _
 | y::r=>by
  unfold xi
  split
  ·rfl
  ·exact((mq x r).cons y).trans (.swap x y r)
theorem kc:∀l,(oP l).Perm l
 | []=>.refl _
 | x::r=>(mq x _).trans ((kc r).cons x)
theorem mC (x:List Int):∀l,l.Pairwise (fun a b=>kT 20 a<=kT 20 b)->(xi x l).Pairwise (fun a b=>kT 20 a<=kT 20 b)
 | [],_=>by simp[xi]
 | y::r,h=>by
  unfold xi
  rw[Ou] at h
  split
  ·rename_i hx
   refine Ou.mpr ⟨fun z hz=>?_,Ou.mpr h⟩
   rcases NQ.mp hz with rfl | hz
   ·exact hx
   ·exact Int.le_trans hx (h.1 z hz)
  ·rename_i hx
   refine Ou.mpr ⟨fun z hz=>?_,mC x r h.2⟩
   rcases NQ.mp ((mq x r).mem_iff.mp hz) with rfl | hz
   ·lia
   ·exact h.1 z hz
theorem iF:∀l,(oP l).Pairwise (fun a b=>kT 20 a<=kT 20 b)
 | []=>.nil
 | x::r=>mC x _ (iF r)
theorem j9:∀{xs ys:List (List Int)},xs.Perm ys->xs.Pairwise (fun a b=>kT 20 a<kT 20 b)->ys.Pairwise (fun a b=>kT 20 a<=kT 20 b)->xs=ys
 | [],ys,p,_,_=>by simp_all
 | x::xs,[],p,_,_=>absurd (Sw.eq_nil p) (by simp)
 | x::xs,y::ys,p,hx,hy=>by
  rw[Ou] at hx hy
  have e:x=y:=by
   grind
  subst e
  rw[j9 (List.perm_cons x |>.mp p) hx.2 hy.2]
noncomputable def vn (ns:List Int):D:=.tup (ns.map D.int)
noncomputable def gO:List D->Option (List (List Int))
 | []=>some []
 | .tup ds::r=>match intsOf ds,gO r with
  | some ns,some xss=>some (ns::xss)
  | _,_=>none
 | _::_=>none
theorem ke:∀xss , gO (xss.map vn)=some xss
 | []=>rfl
 | ns::xss=>by
  show(match intsOf (ns.map D.int),gO (xss.map vn) with | some ns,some xss=>some (ns::xss) | _,_=>none)=_
  rw[iw,ke xss]
theorem Ba {q:List Nat} (pm:q.Perm (ND xss.length)) (up:(q.map fun i=>kT 20 (xss.getD i [])).Pairwise (· < ·)):q.map (fun i=>xss.getD i [])=oP xss:=by
 refine j9 ?_ ?_ (iF xss)
 ·have e:=L2.Srt.range_getD xss []
  have this:(q.map fun i=>xss.getD i []).Perm ((ND xss.length).map fun i=>xss.getD i []):=pm.map _
  exact(this.trans (.of_eq e.symm)).trans (kc xss).symm
 grind
section
variable {X:Cx}{g:GG}{ε:EE}{K:gV}
theorem rM {α:List Addr}{H:Hp}:∀{ns:List Int}{vs:List V},ax K g α H (ns.map D.int) vs->vs=ns.map V.int
 | [],_,.nil=>rfl
 | n::ns,_,.cons r rs=>by cases r;rw[rM rs];rfl
theorem kE {α:List Addr}{H:Hp}:∀{ds:List D}{xs:List V}{xss:List (List Int)},ax K g α H ds xs->gO ds=some xss->TpV K H xs xss/\ds=xss.map vn
 | _,_,xss,.nil,e=>by cases e;exact⟨.nil,rfl⟩
 | d::ds,_,xss,.cons rd rs,e=>by
  cases rd with
  | @tup es p vs hp rs2=>
   have e:(match intsOf es,gO ds with | some ns,some xss=>some (ns::xss) | _,_=>none)=some xss:=e
   cases e1:intsOf es with
   | none=>simp_all
   | some ns=>
    cases e2:gO ds with
    | none=>simp_all
    | some yss=>
     rw[e1,e2] at e
     cases e
     obtain⟨a,b⟩:=kE rs e2
     have e3:=gH e1
     subst e3
     have e4:=rM rs2
     subst e4
     exact⟨.cons (SqT.of hp) a,by rw[b];rfl⟩
  | _=>cases e
end
section
variable {K:gV}{g:GG}{ε:EE}
theorem Ds (r:aU K g α H h) (rd:aJ K g α H d x) (e:iH d h=some ds):∃p vs,x=.ref p/\SqL K H p vs/\ax K g α H ds vs:=by
 unfold iH at e
 cases rd with
 | frl hq rs=>cases e;exact⟨_,_,rfl,hq.sq,rs⟩
 | ref hp=>obtain⟨vs,hv,rs⟩:=r.lst e hp;exact⟨_,vs,rfl,SqL.of hv,rs⟩
 | _=>cases e
end
end L2.FE
namespace L2.SM
open PySem PySem.W PyProof.Rows
section
variable {prog:NW}{w:Oo}{A:Om}{E:NB->NF->Prop}{s:NF}{κ:Qz}{P:Of->Prop}{kk:Of->Int}
structure Upw (κ) (P:Of->Prop) (kk:Of->Int) (st:N0):Prop where
 kind:kindOf st=κ
 fail:failedOf st=none
 all:∀x∈arrOf st,P x
 up:(arrOf st).toList.Pairwise fun x y=>kk x<=kk y
theorem wk {st:N0} (c:Cmp prog w A s κ P kk) (o:Upw κ P kk st) (h1:1<=(arrOf st).size) (h:Q (some (arrOf st).size) st):Gv prog w A E s (countRun' 0 (arrOf st).size) st Q:=by
 with_unfolding_all refine Gv.bind ?_
 refine Gv.sU (fun x z st'=>st'=st/\z=(none,x)/\1<=x) h1 ⟨rfl,rfl,NC _⟩ (fun x z st' hx hz=>?_) (fun z st' hz=>?_)
 ·obtain⟨rfl,rfl,g1⟩:=hz
  have hi:0+x<(arrOf st').size:=by lia
  have hj:0+x - 1<(arrOf st').size:=by lia
  have lt:¬ kk (arrOf st')[0+x]<kk (arrOf st')[0+x - 1]:=by
   have:=NX.mp o.up (0+x - 1) (0+x) (by simpa using hj) (by simpa using hi) (by lia)
   simp only[Array.getElem_toList] at this
   lia
  refine Gv.bind (Gv.bind (Gv.get (Gv.bind (Gv.elem (get_some hi) (Gv.bind (Gv.elem (get_some hj) (Gv.ltC c (o.all _ (N8 hi)) (o.all _ (N8 hj)) o.kind ?_)))))))
  rw[decide_eq_false lt]
  exact Gv.pure ⟨rfl,rfl,by lia⟩
 ·obtain⟨rfl,rfl,g1⟩:=hz
  exact bB (fun _=>Gv.pure h) (fun e=>absurd (by simp) e)
theorem Ak:∀n,n<64->¬ n<minRun' n n 0:=by decide +kernel
theorem vJ {st:N0}{Q:Unit->N0->Prop} (c:Cmp prog w A s κ P kk) (o:Upw κ P kk st) (hp:pendingOf st = #[]) (h2:2<=(arrOf st).size) (h63:(arrOf st).size<64) (h:∀st',failedOf st'=none->arrOf st'=arrOf st->Q () st'):Gv prog w A E s sortRuns' st Q:=by
 with_unfolding_all refine Gv.bind (Gv.get ?_)
 refine Gv.bind (Gv.mono (Q:=fun z st'=>∃lo,z=(none,lo)/\failedOf st'=none/\arrOf st'=arrOf st/\(pendingOf st').size<=1) (Gv.range (fun m z st'=>(z=(none,0)/\st'=st/\(arrOf st).size<=m)\/(z=(none,(arrOf st).size)/\failedOf st'=none/\arrOf st'=arrOf st/\(pendingOf st').size<=1)) (.inl ⟨rfl,rfl,NC _⟩) (fun x m z st1 hz=>?_) (fun z st1 hz=>?_)) (fun z st1 hz=>?_))
 ·rcases hz with⟨rfl,rfl,hm⟩ | ⟨rfl,f1,a1,p1⟩
  ·rw[if_neg (by lia)]
   refine Gv.bind (wk c o (by lia) ?_)
   dsimp only
   refine bB (fun lt=>absurd lt (Ak _ h63)) (fun _=>?_)
   refine Gv.bind (Gv.get ?_)
   split
   ·rename_i hh
    exfalso
    revert hh
    simp[hp]
   ·refine Gv.bind (Gv.n_ fun st6 g6=>?_)
    exact Gv.pure (.inr ⟨by simp,by rw[g6];exact o.fail,by rw[g6],by rw[g6];show((pendingOf st1).push _).size<=1;rw[hp];simp⟩)
  ·rw[if_pos (NC _)]
   exact Gv.pure ⟨_,rfl,f1,a1,p1⟩
 ·rcases hz with⟨rfl,rfl,hm⟩ | ⟨rfl,f1,a1,p1⟩
  ·lia
  ·exact⟨_,rfl,f1,a1,p1⟩
 ·obtain⟨lo,rfl,f1,a1,p1⟩:=hz
  dsimp only
  refine Gv.bind (Gv.mono (Q:=fun z st4=>z=(none,())/\failedOf st4=none/\arrOf st4=arrOf st) (Gv.range (fun m z st4=>z=(none,())/\st4=st1) ⟨rfl,rfl⟩ (fun x m z st4 hz=>?_) (fun z st4 hz=>?_)) (fun z st4 hz=>?_))
  ·obtain⟨rfl,rfl⟩:=hz
   refine Gv.bind (Gv.get ?_)
   rw[if_pos p1]
   exact Gv.pure ⟨rfl,f1,a1⟩
  ·obtain⟨rfl,rfl⟩:=hz
   exact⟨rfl,f1,a1⟩
  ·obtain⟨rfl,f4,a4⟩:=hz
   dsimp only
   exact Gv.pure (h st4 f4 a4)
end
end L2.SM
namespace L2.Srt
open PySem PySem.W PyProof.Rows PySem.Calls L2.SM
section
variable {prog:NW}{w:Oo}{A:Om}{E:NB->NF->Prop}{s:NF}{vs:List NB}{xss:List (List Int)}
theorem Hi {kv:NB->Int} (cm:Cmp prog w A s κ (fun x=>x.1∈vs/\x.2=x.1) (fun x=>kv x.1)) (up:vs.Pairwise fun x y=>kv x<=kv y) (h2:2<=vs.length) (h63:vs.length<64):yx prog w A s vs κ fun out=>out=vs:=by
 intro E
 have zl:=ku vs
 have zs:(vs.toArray.zip vs.toArray).size=vs.length:=by simp
 have ok:Upw κ (fun x:Of=>x.1∈vs/\x.2=x.1) (fun x=>kv x.1) (Te κ (vs.toArray.zip vs.toArray) #[] 7 none):=by
  refine⟨rfl,rfl,fun x hx=>?_,?_⟩
  ·have hx:=Pf.mpr hx
   rw[zl] at hx
   obtain⟨v,hv,rfl⟩:=Oi.mp hx
   exact⟨hv,rfl⟩
  ·show(vs.toArray.zip vs.toArray).toList.Pairwise _
   rw[zl,OT];exact up
 refine vJ cm ok rfl (by show 2<=(vs.toArray.zip vs.toArray).size;lia) (by show(vs.toArray.zip vs.toArray).size<64;lia) (fun st' f1 ea=>?_)
 have e:((arrOf st').map (·.2)).toList=vs:=by
  rw[ea,Sh]
  show((vs.toArray.zip vs.toArray).toList.map _)=vs
  rw[zl,ON]
  have:((fun x:Of=>x.2) ∘ fun v=>(v,v))=(id:NB->NB):=rfl
  rw[this,List.map_id]
 exact⟨f1,by rw[<- NO,e],e⟩
theorem wo {l:Addr}{Q:NB->NF->Prop} (hl:s.heap.IsList l vs.toArray) (r:Tps s.heap vs xss) (h2:2<=xss.length) (h63:xss.length<64) (bd:∀xs∈xss,Bd xs/\xs.length<=20) (ne:∀xs∈xss,xs≠[]) (up:(xss.map (kT 20)).Pairwise (·<=·))
  (h:Q (.ref (s.heap.objs.size+1)) { s with heap:=sortedAll s.heap vs vs.toArray }) :
  wpAny (model prog w) A (call (.builtin "sorted") [.ref l]) Q E s:=by
 have len:=r.len
 have keep:∀b o,s.heap.get? b=some o->(dC (fN s.heap vs) (s.heap.objs.size+1) vs).get? b=some o:=fun b o q=>yL (NS (Qa (tv q))) (DY q)
 have r1:=r.keeps keep
 exact wL hl (by lia) (by lia) (qU (s:={ s with heap:=dC (fN s.heap vs) (s.heap.objs.size+1) vs }) r1 ne bd (by lia) fun κ cm=>⟨rfl,Hi cm (by rw[<- r1.kv,OT] at up;exact up) (by lia) (by lia)⟩) (fun out e=>by subst e;exact h)
end
end L2.Srt
namespace L2
open PySem PySem.Spec PyProof.Rows L2.Srt
section
variable {X:Cx}
theorem xE:cb X (.builtin "sorted") (fun vs H Q=>∃p xs xss,vs=[.ref p]/\SqL X.K H p xs/\TpV X.K H xs xss/\(2<=xss.length/\xss.length<64)/\(∀ns∈xss,L2.Srt.Bd ns/\ns.length<=20)/\(∀ns∈xss,ns≠[])/\(xss.map (kT 20)).Pairwise (·<=·) ∧
  ∀l,H l=none->Q (.ref l) (upd H l (.lst xs))):=by
 intro pins s σ H xs0 us Q I r h
 obtain⟨p,xs,xss,rfl,hq,pr,⟨h2,h63⟩,bd,ne,up,q⟩:=h
 obtain⟨u,rfl,rx⟩:=vals1 r
 cases rx
 obtain⟨its,rv,pl,hz⟩:=I.list hq
 refine wo pl.isList (I.tps pr rv) h2 h63 bd ne up ?_
 obtain⟨k,hk⟩:=sortedAll_at s.heap its its.toArray
 have hn:H (s.heap.objs.size+1)=none:=I.hok.fresh (Tv _)
 refine⟨.ref (s.heap.objs.size+1),upd H (s.heap.objs.size+1) (.lst xs),I.laid (t':=s.toks) (fun _ _ z=>sortedAll_old z) (Tv _) ⟨hz,its,k,rv,?_⟩,rfl,q _ hn⟩
 rw[hk]
end
end L2
namespace L2.FE
open PySem PySem.Spec PyProof.Rows L2.Srt
noncomputable def okR (xss:List (List Int)):Bool:=decide (2<=xss.length/\xss.length<64)&&xss.all (fun xs=>!xs.isEmpty&&decide (xs.length<=20)&&xs.all fun x=>decide (0<=x/\x<=98))&&decide ((xss.map (kT 20)).Pairwise (·<=·))
noncomputable def lL (nl:NL):List D->Hh->R D:=fun ds h=>match ds with
 | [d]=>match iH d h with
  | some xs=>match gO xs with
   | some xss=>if okR xss=true then nl xs h else .bad
   | none=>.bad
  | none=>.bad
 | _=>.bad
section
variable {K:gV}{g:GG}{ε:EE}
noncomputable abbrev Dt (K:gV) (F:VK->VK):List V->Hp->VK->Prop:=fun vs H Q=>∃p xs xss,vs=[.ref p]/\SqL K H p xs/\TpV K H xs xss/\(2<=xss.length/\xss.length<64)/\(∀ns∈xss,L2.Srt.Bd ns/\ns.length<=20)/\(∀ns∈xss,ns≠[])/\(xss.map (kT 20)).Pairwise (·<=·) ∧
  ∀l,H l=none->F Q (.ref l) (upd H l (.lst xs))
theorem Bg [ky nl]:mj K g ε (lL nl) (Dt K jg):=by
 intro α H h a x Q r ra w
 cases ra with
 | nil=>exact w.elim
 | cons rd rr=>
  cases rr with
  | cons _ _=>exact w.elim
  | nil=>
   unfold lL at w
   dsimp only at w
   cases e0:iH _ h with
   | none=>rw[e0] at w;exact w.elim
   | some ds=>
    rw[e0] at w
    dsimp only at w
    obtain⟨p,vs,rfl,hq,rs⟩:=Ds r rd e0
    cases e:gO ds with
    | none=>rw[e] at w;exact w.elim
    | some xss=>
     rw[e] at w
     obtain⟨ok,w⟩:=WQ.gj w
     obtain⟨pr,e9⟩:=kE rs e
     unfold okR at ok
     simp only[N_,decide_eq_true_eq,NZ] at ok
     obtain⟨⟨h2,al⟩,up⟩:=ok
     exact⟨p,vs,xss,rfl,hq,pr,h2,fun xs hx=>⟨fun x hx'=>(al xs hx).2 x hx',(al xs hx).1.2⟩,fun xs hx z=>by have:=(al xs hx).1.1;rw[z] at this;simp at this,up,fun l hl=>NL.post w r rs hl⟩
end
end L2.FE
namespace L2.ST
open PySem
noncomputable abbrev Asc (l:List Nat):Prop:=l.Pairwise (· < ·)
theorem getD_at {xs:Array Nat} (h):xs.getD i d=xs.toList[i]'(by simpa using h):=by
 simp[h]
theorem pO (xs:Array Nat) (j:Nat) (so:Asc xs.toList):∀(f lo hi:Nat),lo<=hi->hi<=xs.size->hi - lo<=f->(∀i (h:i<xs.toList.length),i<lo->xs.toList[i]<j)->(∀i (h:i<xs.toList.length),hi<=i->j<=xs.toList[i]) →
  ∃r,OG.go xs j f lo hi=r/\r<=xs.size/\(∀i (h:i<xs.toList.length),i<r->xs.toList[i]<j)/\(∀i (h:i<xs.toList.length),r<=i->j<=xs.toList[i])
 | 0,lo,hi,h1,h2,hf,a,b=>⟨lo,rfl,by lia,a,fun i h hi'=>b i h (by lia)⟩
 | f+1,lo,hi,h1,h2,hf,a,b=>by
  unfold OG.go
  by_cases c:lo<hi
  ·rw[if_pos c]
   dsimp only
   have hm:(lo+hi) / 2<xs.size:=by lia
   have hm':(lo+hi) / 2<xs.toList.length:=by simpa using hm
   rw[getD_at hm]
   by_cases d:xs.toList[(lo+hi) / 2]<j
   ·rw[if_pos d]
    refine pO xs j so f _ hi (by lia) h2 (by lia) (fun i h hi'=>?_) b
    rcases QT i ((lo+hi) / 2) with e | e
    ·have:=NX.mp so i ((lo+hi) / 2) h hm' e
     lia
    ·have:i=(lo+hi) / 2:=by lia
     subst this;exact d
   ·rw[if_neg d]
    refine pO xs j so f lo _ (by lia) (by lia) (by lia) a (fun i h hi'=>?_)
    rcases QT ((lo+hi) / 2) i with e | e
    ·have:=NX.mp so ((lo+hi) / 2) i hm' h e
     lia
    ·have:i=(lo+hi) / 2:=by lia
     subst this;lia
  ·rw[if_neg c]
   exact⟨lo,rfl,by lia,a,fun i h hi'=>b i h (by lia)⟩
theorem kK (j) (so:Asc xs.toList):∃r,OG xs j=r/\r<=xs.size/\(∀i h , i<r->xs.toList[i]<j)/\(∀i h , r<=i->j<=xs.toList[i]):=by
 exact pO xs j so xs.size 0 xs.size (by lia) (NC _) (by lia) (fun i h hi=>by lia) (fun i h hi=>by grind)
theorem jW (xs) (p) (x:α) (hp:p<=xs.size):(O9 xs p x).toList=xs.toList.take p++x::xs.toList.drop p:=by
 unfold O9
 simp[List.extract_eq_drop_take]
 rw[OX (by simp)]
theorem wC {xs:Array Nat}{j:Nat} (so:Asc xs.toList) (hj:j∉xs.toList):Asc (O9 xs (OG xs j) j).toList:=by
 obtain⟨r,e,hr,a,b⟩:=kK j so
 rw[e,jW _ _ _ hr]
 have s1:Asc (xs.toList.take r):=so.sublist (RZ _ _)
 have s2:Asc (xs.toList.drop r):=so.sublist (List.drop_sublist _ _)
 refine N9.mpr ⟨s1,Ou.mpr ⟨fun y hy=>?_,s2⟩,fun x hx y hy=>?_⟩
 ·obtain⟨i,hi,rfl⟩:=O6 hy
  rw[List.getElem_drop]
  rw[QL] at hi
  have h1:=b (r+i) (by lia) (by lia)
  have h2:j≠xs.toList[r+i]:=fun z=>hj (z ▸ Qp _)
  lia
 ·obtain⟨i,hi,rfl⟩:=O6 hx
  rw[Oa] at hi
  have h1:=a i (by lia) (by lia)
  rw[Ri]
  rcases NQ.mp hy with rfl | hy
  ·exact h1
  ·obtain⟨k,hk,rfl⟩:=O6 hy
   rw[QL] at hk
   rw[List.getElem_drop]
   have:=b (r+k) (by lia) (by lia)
   lia
noncomputable def okM (m:Nat):Prop:=m=7\/m=31\/m=127\/m=511
noncomputable def itr (m:Nat):Nat->Nat->Nat
 | 0,i=>i
 | b+1,i=>itr m b ((i*5+1) % (m+1))
theorem nE (m:Nat):∀a b i,itr m (a+b) i=itr m b (itr m a i)
 | 0,b,i=>by rw[Pz];rfl
 | a+1,b,i=>by rw[show a+1+b=(a+b)+1 by lia];exact nE m a b _
noncomputable def HJ (m:Nat):Nat->Nat->List Nat
 | 0,_=>[]
 | b+1,i=>i::HJ m b ((i*5+1) % (m+1))
theorem yA (m:Nat):∀b i e,e∈HJ m b i->∃c,c<b/\itr m c i=e
 | 0,i,e,h=>by cases h
 | b+1,i,e,h=>by
  rcases NQ.mp h with rfl | h
  ·exact⟨0,by lia,rfl⟩
  ·obtain⟨c,h1,h2⟩:=yA m b _ e h
   exact⟨c+1,by lia,h2⟩
noncomputable def ckO (m:Nat):Bool:=(ND (m+1)).all (fun e=>(HJ m (m+1) 0).contains e)&&(itr m (m+1) 0 == 0)
theorem ck7:ckO 7=true:=by rfl
theorem KD:ckO 127=true:=by decide +kernel
theorem Ky:ckO 511=true:=by decide +kernel
theorem Js (h:okM m):ckO m=true:=by
 rcases h with rfl | rfl | rfl | rfl
 ·exact ck7
 ·rfl
 ·exact KD
 ·exact Ky
theorem J9 (h:okM m) (hi:i<=m) (he:e<=m):∃b,b<=m/\itr m b i=e:=by
 have q:=Js h
 unfold ckO at q
 rw[N_,NZ,beq_iff_eq] at q
 obtain⟨q1,q2⟩:=q
 have get:∀x,x<=m->∃c,c<m+1/\itr m c 0=x:=fun x hx=>yA m _ _ _ (by simpa using q1 x (N3.mpr (by lia)))
 obtain⟨a,ha,ea⟩:=get i hi
 obtain⟨b,hb,eb⟩:=get e he
 rcases QT b a with c | c
 ·refine⟨m+1 - a+b,by lia,?_⟩
  rw[nE,show itr m (m+1 - a) i=0 by rw[<- ea,<- nE,show a+(m+1 - a)=m+1 by lia,q2],eb]
 ·refine⟨b - a,by lia,?_⟩
  rw[<- ea,<- nE,show a+(b - a)=b by lia,eb]
noncomputable def blk (m:Nat):Nat->Nat->Nat->Nat × Nat
 | 0,i,p=>(i,p)
 | b+1,i,p=>blk m b (Py m i p).1 (Py m i p).2
theorem IZ (m:Nat):∀b i,(blk m b i 0).1=itr m b i
 | 0,i=>rfl
 | b+1,i=>by
  show(blk m b ((i*5+1+0 / 32) % (m+1)) (0 / 32)).1=_
  rw[IZ m b];rfl
theorem reach {m e:Nat} (h:okM m) (he:e<=m):∀c i p,p<32 ^ c->i<=m->∃b,b<=m+c/\(blk m b i p).1=e
 | 0,i,p,hp,hi=>by
  have:p=0:=by simpa using hp
  subst this
  obtain⟨b,h1,h2⟩:=J9 h hi he
  exact⟨b,by lia,by rw[IZ,h2]⟩
 | c+1,i,p,hp,hi=>by
  have h1:p / 32<32 ^ c:=by rw[Nat.div_lt_iff_lt_mul (by decide)];exact hp
  have h2:(i*5+1+p / 32) % (m+1)<=m:=QF (R5 _ (by lia))
  obtain⟨b,h3,h4⟩:=reach h he c ((i*5+1+p / 32) % (m+1)) (p / 32) h1 h2
  exact⟨b+1,by lia,h4⟩
theorem yR (h):OI h<32 ^ 13:=by
 have:(h % 2 ^ 64).toNat<2 ^ 64:=by lia
 exact Sq this (by decide)
structure Tb (t:Ox):Prop where
 m:okM t.mask
 so:Asc t.place.toList
 le:∀x∈t.place.toList,x<=t.mask
 du:t.dummies = #[]
 sz:t.place.size<=t.mask
theorem Dn (j):Ox.has #[] j=false:=by
 rfl
theorem DT {t:Ox} (T:Tb t){j:Nat} (hj:j∈t.place.toList):∃i,t.slot j=.live i/\i<t.place.size:=by
 obtain⟨r,e,hr,a,b⟩:=kK j T.so
 obtain⟨i,hi,ei⟩:=O6 hj
 have h1:r<=i:=by
  rcases QT i r with c | c
  ·have:=a i hi c;lia
  ·exact c
 have h2:i<=r:=by
  rcases QT r i with c | c
  ·have q:=b r (by lia) (NC _)
   have:=NX.mp T.so r i (by lia) hi c
   lia
  ·exact c
 have:i=r:=by lia
 subst this
 refine⟨i,?_,by simpa using hi⟩
 unfold Ox.slot
 rw[e]
 have:t.place[i]?=some j:=by rw[<- NP,NM hi,ei]
 simp[this]
theorem u9 {t:Ox} (T:Tb t){j:Nat} (hj:j∉t.place.toList):t.slot j=.empty:=by
 unfold Ox.slot
 have:(t.place[OG t.place j]? == some j)=false:=by
  cases e:t.place[OG t.place j]? with
  | none=>rfl
  | some x=>
   have:x∈t.place.toList:=by rw[<- NP] at e;exact Ob e
   have ne:x≠j:=fun z=>hj (z ▸ this)
   simpa using ne
 simp[this,T.du,Dn]
theorem wU (T:Tb t) (j):(t.slot j=.empty/\j∉t.place.toList)\/∃i,t.slot j=.live i/\i<t.place.size:=by
 by_cases h:j∈t.place.toList
 ·exact .inr (DT T h)
 ·exact .inl ⟨u9 T h,h⟩
theorem C3:∀{l l':List Nat},l.Nodup->(∀x∈l,x∈l')->l.length<=l'.length
 | [],_,_,_=>OU _
 | x::l,l',nd,s=>by
  obtain⟨n1,n2⟩:=Pp.mp nd
  have:=C3 n2 fun y hy=>(List.mem_erase_of_ne (fun z:y=x=>n1 (z ▸ hy))).mpr (s y (ox _ hy))
  grind
theorem wF (T:Tb t):∃e,e<=t.mask/\t.slot e=.empty:=by
 by_cases c:∃e,e<=t.mask/\e∉t.place.toList
 ·obtain⟨e,h1,h2⟩:=c
  exact⟨e,h1,u9 T h2⟩
 ·exfalso
  have all:=fun e he=>Classical.byContradiction fun z=>c ⟨e,he,z⟩
  have q:=C3 (l:=ND (t.mask+1)) List.nodup_range fun x hx=>all x (by grind)
  rw[Rj,NO] at q
  have:=T.sz
  lia
noncomputable def adv (t:Ox):Nat->Rm->Rm
 | 0,q=>q
 | k+1,q=>adv t k (t.advance q)
theorem yt (t:Ox):∀a b q,adv t (a+b) q=adv t b (adv t a q)
 | 0,b,q=>by rw[Pz];rfl
 | a+1,b,q=>by rw[show a+1+b=(a+b)+1 by lia];exact yt t a b _
noncomputable abbrev pAt (t:Ox) (i p:Nat):Rm:={ j:=i,more:=OZ t.mask i - i,i:=i,perturb:=p,dummy:=none }
theorem zp (t:Ox):∀c (q:Rm),q.more=c->q.dummy=none->adv t (c+1) q=pAt t (Py t.mask q.i q.perturb).1 (Py t.mask q.i q.perturb).2
 | 0,q,h,hd=>by
  show t.advance q=_
  unfold Rv
  simp_all
 | c+1,q,h,hd=>by
  show adv t (c+1) (t.advance q)=_
  have e:t.advance q={ q with j:=q.j+1,more:=q.more - 1 }:=by unfold Rv;simp_all
  rw[e];exact zp t c _ (by simp_all) hd
theorem Ih (m i):OZ m i - i<=9:=by unfold OZ;grind
theorem yi (t):∀b i p,∃k,k<=10*b/\adv t k (pAt t i p)=pAt t (blk t.mask b i p).1 (blk t.mask b i p).2
 | 0,i,p=>⟨0,by lia,rfl⟩
 | b+1,i,p=>by
  obtain⟨k,h1,h2⟩:=yi t b (Py t.mask i p).1 (Py t.mask i p).2
  refine⟨OZ t.mask i - i+1+k,by have:=Ih t.mask i;lia,?_⟩
  rw[yt,zp t _ (pAt t i p) rfl rfl,h2]
  rfl
theorem BC (t:Ox) (h):(t.probeStart h).j+(t.probeStart h).more<=t.mask:=by
 show OI h % (t.mask+1)+(OZ t.mask (OI h % (t.mask+1)) - OI h % (t.mask+1))<=_
 have:OI h % (t.mask+1)<=t.mask:=QF (R5 _ (by lia))
 unfold OZ
 grind
theorem Io {t:Ox} (q) (h:q.j+q.more<=t.mask):(t.advance q).j+(t.advance q).more<=t.mask:=by
 unfold Rv
 split
 ·grind
 ·show(Py t.mask q.i q.perturb).1+(OZ t.mask (Py t.mask q.i q.perturb).1 - (Py t.mask q.i q.perturb).1)<=t.mask
  have:(Py t.mask q.i q.perturb).1<=t.mask:=QF (R5 _ (by lia))
  unfold OZ
  grind
noncomputable def Rch (t:Ox) (k:Nat) (q:Rm):Prop:=q.dummy=none/\q.j+q.more<=t.mask/\t.slot (adv t k q).j=.empty
theorem Am (T:Tb t) (h):∃k,k+1<10*P4 t.mask/\Rch t k (t.probeStart h):=by
 obtain⟨e,he,ee⟩:=wF T
 obtain⟨b,h1,h2⟩:=reach T.m he 13 (OI h % (t.mask+1)) (OI h) (yR h) (QF (R5 _ (by lia)))
 obtain⟨k,h3,h4⟩:=yi t b (OI h % (t.mask+1)) (OI h)
 refine⟨k,by unfold P4;lia,rfl,BC t h,?_⟩
 show t.slot (adv t k (pAt t (OI h % (t.mask+1)) (OI h))).j=.empty
 simp_all
theorem AD (t:Ox) (q):(t.advance q).dummy=q.dummy:=by unfold Rv;grind
theorem B6 {t:Ox} (T:Tb t) (ha:Nat->Int) (h:Int):∀k fuel q,k<fuel->Rch t k q →
  (∃j,R6 t ha h fuel q=some (.empty j none)/\j∉t.place.toList/\j<=t.mask)\/(∃j i k' q',R6 t ha h fuel q=some (.candidate j i q')/\t.slot j=.live i/\i<t.place.size/\ha i=h/\k'<k/\Rch t k' q')
 | k,0,q,hf,_=>by lia
 | k,f+1,q,hf,R=>by
  unfold R6
  rcases wU T q.j with⟨e,hn⟩ | ⟨i,e,hi⟩
  ·rw[e]
   exact .inl ⟨q.j,by show some (Ox.Met.empty q.j q.dummy)=_;rw[R.1],hn,by have:=R.2.1;lia⟩
  ·rw[e]
   cases k with
   | zero=>have:=R.2.2;rw[show adv t 0 q=q from rfl,e] at this;cases this
   | succ k=>
    have R':Rch t k (t.advance q):=⟨by rw[AD];exact R.1,Io q R.2.1,R.2.2⟩
    by_cases c:(ha i == h)=true
    ·refine .inr ⟨q.j,i,k,t.advance q,?_,e,hi,by simpa using c,by lia,R'⟩
     show(if (ha i == h)=true then _ else _)=_
     rw[if_pos c]
    ·show(∃j,(if (ha i == h)=true then _ else _)=_/\_)\/(∃j i' k' q',(if (ha i == h)=true then _ else _)=_/\_)
     rw[if_neg c]
     rcases B6 T ha h k f (t.advance q) (by lia) R' with⟨j,h1,h2,h3⟩ | ⟨j,i',k',q',h1,h2,h3,h4,h5,h6⟩
     ·exact .inl ⟨j,h1,h2,h3⟩
     ·exact .inr ⟨j,i',k',q',h1,h2,h3,h4,by lia,h6⟩
theorem vO {m:Nat} (owner:Array (Option Nat)){e:Nat} (he:(owner.getD e (some 0)).isNone=true):∀b fuel i p,b<fuel->(blk m b i p).1=e →
  ∃j,Q9 m owner fuel i p=some j/\(owner.getD j (some 0)).isNone=true
 | b,0,i,p,h,_=>by lia
 | b,f+1,i,p,h,hb=>by
  unfold Q9
  cases c:(ND (OZ m i+1 - i)).find? fun k=>(owner.getD (i+k) (some 0)).isNone with
  | some k=>simp_all
  | none=>
   cases b with
   | zero=>
    exfalso
    have hr:OZ m i ≥ i:=by unfold OZ;grind
    have:=List.find?_eq_none.mp c 0 (N3.mpr (by lia))
    rw[show i+0=e from hb] at this
    simp_all
   | succ b=>exact vO owner he b f _ _ (by lia) hb
noncomputable def k_ (l:List (Option Nat)):List Nat:=l.filterMap id
theorem uW:∀{l:List (Option Nat)},(k_ l).length<l.length->∃j:Nat,l[j]?=some none
 | [],h=>by simp_all
 | none::l,_=>⟨0,rfl⟩
 | some x::l,h=>by
  obtain⟨j,e⟩:=uW (by simp[k_] at h ⊢;omega)
  exact⟨j+1,e⟩
theorem tN {k:Nat}:∀{l:List (Option Nat)}{j:Nat},l[j]?=some none->(k_ (l.set j (some k))).Perm (k::k_ l)
 | none::l,0,_=>by rfl
 | some x::l,0,h=>by cases h
 | none::l,j+1,h=>by simpa [k_] using tN (l:=l) h
 | some x::l,j+1,h=>by
  have:=tN (k:=k) (l:=l) h
  exact(this.cons x).trans (.swap _ _ _)
noncomputable def nu (m:Nat) (acc:Option (Array (Option Nat) × Nat)) (h:Int):Option (Array (Option Nat) × Nat):=do
 let (owner,k) ← acc
 let j ← Q9 m owner (P4 m) (OI h % (m+1)) (OI h)
 pure (owner.setIfInBounds j (some k),k+1)
theorem vR {m:Nat} (hm:okM m):∀(hs:List Int) (owner:Array (Option Nat)) (k:Nat),owner.size=m+1->(k_ owner.toList).Perm (ND k)->k+hs.length<=m+1 →
  ∃owner',hs.foldl (nu m) (some (owner,k))=some (owner',k+hs.length)/\owner'.size=m+1/\(k_ owner'.toList).Perm (ND (k+hs.length))
 | [],owner,k,hs,hp,_=>⟨owner,rfl,hs,hp⟩
 | h::r,owner,k,hs,hp,hk=>by
  rw[OO] at hk
  have hl:(k_ owner.toList).length<owner.toList.length:=by rw[hp.length_eq,Rj,NO];lia
  obtain⟨e,ee⟩:=uW hl
  rw[NP] at ee
  have he:(owner.getD e (some 0)).isNone=true:=by simp[ee]
  have hle:e<=m:=by have:=(Array.getElem?_eq_some_iff.mp ee).1;lia
  obtain⟨b,h1,h2⟩:=reach hm hle 13 (OI h % (m+1)) (OI h) (yR h) (QF (R5 _ (by lia)))
  obtain⟨j,h3,h4⟩:=vO owner he b (P4 m) _ _ (by unfold P4;lia) h2
  have hj:owner[j]?=some none:=by
   rw[Array.getD_eq_getD_getElem?] at h4
   cases c:owner[j]? with
   | none=>rw[c] at h4;simp at h4
   | some x=>rw[c] at h4;simp at h4;rw[h4]
  have hp2:(k_ (owner.setIfInBounds j (some k)).toList).Perm (ND (k+1)):=by
   rw[Array.toList_setIfInBounds]
   refine(tN (by rw[NP];exact hj)).trans ((hp.cons k).trans ?_)
   rw[PL]
   exact(QG k (ND k)).symm
  obtain⟨o',q1,q2,q3⟩:=vR hm r (owner.setIfInBounds j (some k)) (k+1) (by simpa using hs) hp2 (by lia)
  refine⟨o',?_,q2,?_⟩
  ·rw[Sm,show nu m (some (owner,k)) h=some (owner.setIfInBounds j (some k),k+1) by unfold nu;simp[h3],q1,OO]
   congr 2;lia
  ·rw[OO,show k+(r.length+1)=k+1+r.length by lia];exact q3
theorem HW (hm:okM m) (hs) (hl:hs.size<=m+1):∃owner,SetTable.layClean m hs=some owner/\owner.size=m+1/\(k_ owner.toList).Perm (ND hs.size):=by
 obtain⟨o',q1,q2,q3⟩:=vR hm hs.toList (Array.replicate (m+1) none) 0 (by simp) (by simp[k_]) (by simp_all)
 refine⟨o',?_,q2,by simp_all⟩
 show(hs.foldl (nu m) (some (Array.replicate (m+1) none,0))).map (·.1)=_
 simp_all
theorem kP (g:Nat->Option Nat):∀l:List Nat,(l.filterMap fun j=>(g j).map (j,·)).map (·.1)=l.filter fun j=>(g j).isSome
 | []=>rfl
 | j::l=>by
  cases e:g j with
  | none=>simpa [e] using kP g l
  | some x=>simpa [e] using kP g l
theorem kS (g:Nat->Option Nat):∀l:List Nat,(l.filterMap fun j=>(g j).map (j,·)).map (·.2)=l.filterMap g
 | []=>rfl
 | j::l=>by
  cases e:g j with
  | none=>simpa [e] using kS g l
  | some x=>simpa [e] using kS g l
theorem rL (o:Array (Option Nat)):(ND o.size).filterMap (fun j=>o.getD j none)=k_ o.toList:=by
 have e:(ND o.size).map (fun j=>o.getD j none)=o.toList:=by
  apply QM
  ·simp
  simp_all
 rw[k_,<- e,List.filterMap_map];rfl
theorem D0 (hm:okM m) (hs) (hl:hs.size<=m):∃t order,Ox.laid m f mv ld pl hs=some (t,order)/\Tb t/\t.mask=m/\t.led=ld/\t.plain=pl/\t.place.size=hs.size/\order.toList.Perm (ND hs.size):=by
 obtain⟨o,q1,q2,q3⟩:=HW hm hs (by lia)
 refine⟨{ mask:=m,place:=((ND (m+1)).filter fun j=>(o.getD j none).isSome).toArray,dummies:=#[],finger:=f,led:=ld,moves:=mv,plain:=pl },(k_ o.toList).toArray,?_,?_⟩
 ·unfold Ox.laid
  rw[q1]
  show some _=some _
  congr 2
  ·congr 2
   exact kP (fun j=>o.getD j none) _
  ·rw[kS (fun j=>o.getD j none),<- q2,rL]
 ·have len:((ND (m+1)).filter fun j=>(o.getD j none).isSome).length=hs.size:=by
   rw[<- kP,NJ,<- NJ,kS,<- q2,rL,q3.length_eq,Rj]
  refine⟨⟨hm,?_,?_,rfl,?_⟩,rfl,rfl,rfl,?_,?_⟩
  ·show Asc (List.toArray _).toList
   exact Sa.filter _ Q_
  ·grind
  ·simp_all
  ·omega
  lia
theorem HI {t:Ox} (T:Tb t){j:Nat} (hj:j∉t.place.toList) (hm:j<=t.mask) (hs:t.place.size+1<=t.mask):Tb (t.put j).1/\(t.put j).1.mask=t.mask/\(t.put j).1.led=t.led/\(t.put j).1.plain=t.plain/\(t.put j).1.place.size=t.place.size+1/\(t.put j).2<=t.place.size:=by
 obtain⟨r,e,hr,_⟩:=kK j T.so
 have il:=jW t.place r j hr
 have sz:(O9 t.place (OG t.place j) j).size=t.place.size+1:=by
  rw[e,<- NO,il,N2,OO,Oa,QL,NO];lia
 have du:(t.put j).1.dummies = #[]:=by
  show(if Ox.has t.dummies j=true then _ else t.dummies)=_
  rw[T.du];rfl
 refine⟨⟨T.m,wC T.so hj,?_,du,?_⟩,rfl,rfl,rfl,sz,by show OG t.place j<=_;rw[e];exact hr⟩
 ·intro x hx
  have hx:x∈(O9 t.place (OG t.place j) j).toList:=hx
  rw[e,il] at hx
  rcases Oe.mp hx with h | h
  ·exact T.le x (P7 h)
  ·rcases NQ.mp h with rfl | h
   ·exact hm
   ·exact T.le x (List.mem_of_mem_drop h)
 ·show(O9 t.place (OG t.place j) j).size<=t.mask
  rw[sz];exact hs
structure Gd (bt) (t) (n):Prop where
 tb:Tb t
 sz:t.place.size=n
 led:t.led = !bt
 pl:t.plain=true
 rng:(t.mask=7/\n<=4)\/(t.mask=31/\5<=n/\n<=18)\/(t.mask=127/\19<=n/\n<=76)\/(t.mask=511/\77<=n/\n<=306)
theorem Gd.fits (g:Gd bt t n):t.fits n=true:=by
 unfold Ox.fits Ta
 rw[g.sz,g.tb.du]
 have:=g.tb.sz
 rw[g.sz] at this
 simp_all
theorem Hc (bt:Bool):Gd bt (.fresh 0 0 (!bt)) 0:=⟨⟨.inl rfl,by simp[SK],by simp[SK],rfl,by simp[SK]⟩,rfl,rfl,rfl,.inl ⟨rfl,by lia⟩⟩
structure Pre (bt) (t) (n):Prop where
 tb:Tb t
 sz:t.place.size=n
 led:t.led = !bt
 pl:t.plain=true
 fits:t.fits n=true
 no:t.tooFull=false->Gd bt t n
 yes:t.tooFull=true->∃m,RL (Ro n)=m+1/\m<=511/\∀hs:Array Int,hs.size=n->∃t' order,t.relaid hs (Ro n)=some (t',order)/\Gd bt t' n/\order.toList.Perm (ND n)
theorem Ho {bt:Bool}{t:Ox}{n:Nat} (g:Gd bt t n) (hn:n<306){j:Nat} (hj:j∉t.place.toList) (hm:j<=t.mask):Pre bt (t.put j).1 (n+1)/\(t.put j).2<=n:=by
 have hs:t.place.size+1<=t.mask:=by rw[g.sz];rcases g.rng with h | h | h | h<;>lia
 obtain⟨T,e1,e2,e3,e4,e5⟩:=HI g.tb hj hm hs
 rw[g.sz] at e4 e5
 have ft:(t.put j).1.fits (n+1)=true:=by
  unfold Ox.fits Ta
  have:=T.sz
  rw[e4] at this
  rw[e4,T.du];simp;exact this
 have tf:(t.put j).1.tooFull=decide ((n+1)*5 ≥ t.mask*3):=by
  unfold Ox.tooFull Ta
  rw[e4,T.du,e1];simp
 refine⟨⟨T,e4,by rw[e2];exact g.led,by rw[e3];exact g.pl,ft,fun c=>⟨T,e4,by rw[e2];exact g.led,by rw[e3];exact g.pl,?_⟩,fun c=>?_⟩,e5⟩
 ·rw[tf] at c
  have c:=of_decide_eq_false c
  rcases g.rng with h | h | h | h
  ·exact .inl ⟨h.1,by lia⟩
  ·exact .inr (.inl ⟨h.1,by lia,by lia⟩)
  ·exact .inr (.inr (.inl ⟨h.1,by lia,by lia⟩))
  ·exact .inr (.inr (.inr ⟨h.1,by lia,by lia⟩))
 ·rw[tf] at c
  have c:=of_decide_eq_true c
  have key:∀m,okM m->RL (Ro (n+1))=m+1->m<=511->n+1<=m->((m=7/\n+1<=4)\/(m=31/\5<=n+1/\n+1<=18)\/(m=127/\19<=n+1/\n+1<=76)\/(m=511/\77<=n+1/\n+1<=306)) →
    ∃m,RL (Ro (n+1))=m+1/\m<=511/\∀hs:Array Int,hs.size=n+1->∃t' order,(t.put j).1.relaid hs (Ro (n+1))=some (t',order)/\Gd bt t' (n+1)/\order.toList.Perm (ND (n+1)):=by
   intro m om hsz h5 hle hr
   refine⟨m,hsz,h5,fun hs hh=>?_⟩
   unfold Ox.relaid
   rw[hsz]
   obtain⟨t',order,a1,a2,a3,a4,a5,a6,a7⟩:=D0 om hs (by lia)
   rw[hh] at a6 a7
   exact⟨t',order,a1,⟨a2,a6,by rw[a4,e2];exact g.led,by rw[a5,e3];exact g.pl,by rw[a3];exact hr⟩,a7⟩
  rcases g.rng with h | h | h | h
  ·have:n+1=5:=by lia
   exact key 31 (.inr (.inl rfl)) (by rw[this];decide) (by lia) (by lia) (.inr (.inl ⟨rfl,by lia,by lia⟩))
  ·have:n+1=19:=by lia
   exact key 127 (.inr (.inr (.inl rfl))) (by rw[this];decide) (by lia) (by lia) (.inr (.inr (.inl ⟨rfl,by lia,by lia⟩)))
  ·have:n+1=77:=by lia
   exact key 511 (.inr (.inr (.inr rfl))) (by rw[this];decide) (by lia) (by lia) (.inr (.inr (.inr ⟨rfl,by lia,by lia⟩)))
  ·exfalso;lia
end L2.ST
namespace L2.ST
open PySem PySem.Spec PyProof.Rows
noncomputable abbrev byT (w:Oo):Bool:=w.params.followText "set-order"
noncomputable def HA (w:Oo) (h:Heap) (S:Addr) (es:Array (Int × NB)):Prop:=∃o ep t,h.get? S=some o/\o.ExactSet/\o.data=.set es ep t/\Gd (byT w) t es.size
theorem Bc (xs) (p) (x:α):(O9 xs p x).size=xs.size+1:=by
 have:=(Ox.insertAt_perm xs p x).length_eq
 simp_all
theorem AG {α:Type}{es:Array α}{order:Array Nat} (p:order.toList.Perm (ND es.size)):(order.filterMap (es[·]?)).toList.Perm es.toList:=by
 rw[Array.toList_filterMap]
 exact(p.filterMap _).trans (by rw[filterMap_getElem?_range])
section
variable {prog:NW}{w:Oo}{A:Om}{E:NB->NF->Prop}{s:NF}{S:Addr}{es:Array (Int × NB)}
theorem yV {h:Heap} (ho:h.get? S=some o) (hd:o.data=.set es ep t) (es') (t') :
  (h.update S (Obj.putSet es' t')).get? S=some { o with data:=.set es' (ep+1) t' }:=by
 have:=Rr (Obj.putSet es' t') ho (by rw[putSet_of es' t' hd];rfl)
 rw[putSet_of es' t' hd] at this;lia
theorem ve (h:n<=306):n<=sizeLine:=N4 h (by decide)
end
section
variable {prog:NW}{w:Oo}{A:Om}{E:NB->NF->Prop}{s:NF}{S:Addr}{es:Array (Int × NB)}
noncomputable abbrev TK (prog:NW) (w:Oo) (h:Heap) (ks:List Int) (a:Addr):Prop:=IsTupleKey (intKind prog w) h ks a
noncomputable def Im (prog:NW) (w:Oo) (h:Heap) (es:List (Int × NB)) (x:List Int):Prop:=∀e∈es,∃ks a,e.2=.ref a/\TK prog w h ks a/\ks≠x
theorem GK (h:(intKind prog w).is k v=true):∃t,v=.int k t:=by
 cases v<;>simp[intKind,NB.isInt] at h
 simp_all
theorem items_int (h:ItemsAre (intKind prog w) ks vs):∀v∈vs,∃n t,v=.int n t:=by
 induction h with
 | nil=>simp
 | cons h1 _ ih=>
  intro v hv
  rcases NQ.mp hv with rfl | hv
  ·obtain⟨t,e⟩:=GK h1;simp_all
  simp_all
theorem rQ {ks:List Int}{a:Addr}{Q:Bool->NF->Prop} (hk:TK prog w s.heap ks a) (h:Q false s):wpAny (model prog w) A (ofAClassStatement 8 (.ref a)) Q E s:=by
 have hT:=hk.typeIs
 obtain⟨o,items,n,ho,_,hd,hi⟩:=hk
 unfold ofAClassStatement
 refine k3 (Rq hT ?_)
 refine k3 (td ?_)
 refine k3 (RR ho hd ?_)
 refine k3 ?_
 rw[<- Array.forIn_toList]
 refine Si _ (fun rest r s'=>r.1=none/\s'=s/\∀v∈rest,∃n t,v=.int n t) _ ?_ ?_ _ _ ⟨rfl,rfl,items_int hi⟩
 ·rintro v rest r s' ⟨hr,rfl,hall⟩
  obtain⟨n,t,rfl⟩:=hall v NG
  refine k3 ?_
  refine td ?_
  exact td ⟨rfl,rfl,fun u hu'=>hall u (ox _ hu')⟩
 ·rintro⟨r1,r2⟩ s' ⟨hr,rfl,_⟩
  subst hr
  exact td h
theorem EF (hk:TK prog w s.heap x a) (hl:∀v∈l,∃ks b,v=.ref b/\TK prog w s.heap ks b) (h:Q false s):wpAny (model prog w) A (searchCouldBeSeen (.ref a) l) Q E s:=by
 refine k3 ?_
 refine Si _ (fun rest r s'=>r.1=none/\s'=s/\∀v∈rest,∃ks b,v=.ref b/\TK prog w s.heap ks b) _ ?_ ?_ _ _ ⟨rfl,rfl,hl⟩
 ·rintro v rest r s' ⟨hr,rfl,hall⟩
  obtain⟨ks,b,rfl,hb⟩:=hall v NG
  have nx:=fun u hu'=>hall u (ox _ hu')
  refine Sy (fun _=>td ⟨rfl,rfl,nx⟩) fun _=>?_
  refine k3 (wpAny_eqIsQuiet_tuple hk ?_)
  refine k3 (wpAny_eqIsQuiet_tuple hb ?_)
  refine k3 (rQ hk ?_)
  refine k3 (rQ hb ?_)
  exact td ⟨rfl,rfl,nx⟩
 ·rintro⟨r1,r2⟩ s' ⟨hr,rfl,_⟩
  subst hr
  exact td h
theorem KL (T:Tb t):t.gaveWay=false:=by
 unfold Ox.gaveWay
 rcases T.m with h | h | h | h<;>rw[h]<;>rfl
theorem Dm (hk:TK prog w s.heap ks a) (h:Q true s):wpAny (model prog w) A (hashByValue 8 (.ref a)) Q E s:=by
 have hT:=hk.typeIs
 obtain⟨o,items,n,ho,_,hd,hi⟩:=hk
 refine k3 (wpAny_specialOf hT F.slot_tuple_hash.lookup ?_)
 refine k3 (RR ho hd ?_)
 refine k3 ?_
 show wpAny _ _ (forIn items _ _) _ _ s
 rw[<- Array.forIn_toList]
 refine Si _ (fun rest r s'=>r.1=none/\s'=s/\∀v∈rest,∃n t,v=.int n t) _ ?_ ?_ _ _ ⟨rfl,rfl,items_int hi⟩
 ·rintro v rest r s' ⟨hr,rfl,hall⟩
  obtain⟨n,t,rfl⟩:=hall v NG
  refine k3 ?_
  refine td ?_
  exact td ⟨rfl,rfl,fun u hu'=>hall u (ox _ hu')⟩
 ·rintro⟨r1,r2⟩ s' ⟨hr,rfl,_⟩
  subst hr
  exact td h
theorem zH {x:List Int}{a:Addr}{h:Int}{o:Obj}{ep:Nat}{t:Ox}{Q:SetFound->NF->Prop} (ho:s.heap.get? S=some o) (hd:o.data=.set es ep t) (T:Tb t) (hsz:t.place.size=es.size) (hf:t.fits es.size=true) (hu:A.units<cLine)
  (hk:TK prog w s.heap x a) (hes:Im prog w s.heap es.toList x) (hQ:∀j,j∉t.place.toList->j<=t.mask->Q (.free j false) s) :
  ∀k fuel stand,k<fuel->k<10*P4 t.mask->Rch t k (stand.getD (t.probeStart h))->wpAny (model prog w) A (setSearchFrom S (.ref a) h true fuel stand) Q E s:=by
 intro k
 induction k using Nat.strongRecOn with
 | _ k ih=>
  intro fuel stand hfu hk2 R
  cases fuel with
  | zero=>lia
  | succ fuel=>
   refine k3 (Pl ho hd hf ?_)
   dsimp only
   rw[KL T]
   simp only[RM,if_false]
   generalize hp:t.probe _ h (stand.getD (t.probeStart h))=mt
   have key:∀ha,t.probe ha h (stand.getD (t.probeStart h))=mt->_:=fun ha e=>(e ▸ B6 T ha h k (10*P4 t.mask) _ hk2 R:(∃j,mt=some (.empty j none)/\j∉t.place.toList/\j<=t.mask)\/(∃j i k' q',mt=some (.candidate j i q')/\t.slot j=.live i/\i<t.place.size/\ha i=h/\k'<k/\Rch t k' q'))
   rcases key _ hp with⟨j,rfl,j1,j2⟩ | ⟨j,i,k',q',rfl,j1,j2,_,j4,j5⟩
   ·exact td (hQ j j1 j2)
   ·dsimp only
    have hi:i<es.size:=by lia
    obtain⟨ks,b,e1,e2,e3⟩:=hes es[i] (Array.getElem_mem_toList hi)
    have hei:es[i]?=some (es[i].1,.ref b):=by rw[P5 hi,<- e1]
    have rest:wpAny (model prog w) A (do
      let some (_,y):=es[i]? | unsupported "internal:set-entry"
      let equal ← holding [y] (eqBool y (.ref a))
      let (es',_,t') ← setState S
      if true&&equal then return SetFound.there none
      let some same:=t'.sameMemory t.moves t.mask | unsupported "set.changed-during-lookup:is-the-new-block-at-the-old-address"
      let still ← match (if same then t'.slot j else .empty) with
       | .live i'=>match es'[i']? with
        | some (_,y')=>do pure (if ← isSame y' y then some i' else none)
        | none=>pure none
       | _=>pure none
      match still with
      | none=>rule "set.search.anew"; setSearchFrom S (.ref a) h true fuel none
      | some i'=>if equal then return SetFound.there (some i') else setSearchFrom S (.ref a) h true fuel (some q')) Q E s:=by
     rw[hei]
     refine k3 (OR (wpAny_eqBool_tuple hu e2 hk ?_))
     rw[decide_eq_false e3]
     refine k3 (Pl ho hd hf ?_)
     simp only[if_false]
     have sm:t.sameMemory t.moves t.mask=some true:=by unfold Ox.sameMemory;simp
     rw[sm]
     simp only[if_true]
     rw[j1]
     dsimp only
     rw[hei]
     refine k3 (wpAny_isSame_ref_self (k3 (td ?_)))
     exact ih k' j4 fuel (some q') (by lia) (by lia) j5
    refine Sy (fun _=>?_) fun _=>?_
    ·refine k3 (EF hk (fun v hv=>?_) ?_)
     ·obtain⟨e,he,rfl⟩:=Oi.mp hv
      obtain⟨ks',b',q1,q2,_⟩:=hes e (by rw[Array.toList_filter] at he;exact(OA.mp he).1)
      exact⟨ks',b',q1,q2⟩
     ·simp only[RM]
      exact rest
    ·exact rest
end
section
variable {prog:NW}{w:Oo}{A:Om}{E:NB->NF->Prop}{s:NF}{S:Addr}{es:Array (Int × NB)}
theorem D3 (hS:HA w s.heap S es) (hn:es.size<306) (hu:A.units<cLine) (hk:TK prog w s.heap x a) (hes:Im prog w s.heap es.toList x)
  (h1:∀h' es',QA S s.heap h'->HA w h' S es'->es'.toList.Perm (es.toList++[(hs,.ref a)])->Q true { s with heap:=h' }) :
  wpAny (model prog w) A (setAddHashed S (.ref a) hs) Q E s:=by
 obtain⟨o,ep,t,ho,hex,hd,g⟩:=hS
 have hf:=g.fits
 refine OR (k3 (Pl ho hd hf ?_))
 dsimp only
 rw[show byScan (.ref a) es=false by rfl]
 obtain⟨k,k1,R⟩:=Am g.tb hs
 refine k3 (zH ho hd g.tb g.sz hf hu hk hes (fun j jn jl=>?_) k 100000 none ?_ (by lia) R)
 ·dsimp only
  refine k3 (Pl ho hd hf ?_)
  obtain⟨P,pl⟩:=Ho g hn jn jl
  have sz:(O9 es (t.put j).2 (hs,Pr a)).size=es.size+1:=Bc _ _ _
  have pm:=Ox.insertAt_perm es (t.put j).2 (hs,Pr a)
  rw[R4] at pm
  generalize he1:O9 es (t.put j).2 (hs,Pr a)=es1 at sz pm
  generalize ht1:(t.put j).1=t1 at P
  rw[P.pl]
  refine k3 (Dm hk ?_)
  simp only[if_true]
  refine k3 (wpAny_storeSet_of ho hd ?_ (ve (by lia)))
  have e1:=yV ho hd es1 t1
  by_cases c:t1.tooFull=true
  ·rw[c]
   obtain⟨m,m1,m2,q⟩:=P.yes c
   obtain⟨t',order,a1,a2,a3⟩:=q (es1.map (·.1)) (by simp_all)
   rw[<- sz] at a3
   have pm2:=AG a3
   have sz2:(order.filterMap (es1[·]?)).size=es.size+1:=by rw[<- NO,pm2.length_eq,NO,sz]
   refine k3 ?_
   refine k3 (Pl e1 rfl (by rw[sz];exact P.fits) ?_)
   dsimp only
   rw[if_neg (by rw[m1];have:512<=sizeLine:=by decide
                 lia)]
   rw[a1]
   show wpAny _ _ ((if ((order.filterMap (es1[·]?)).size != es1.size)=true then unsupported "internal:set-table-lost-an-element" else pure PUnit.unit >>= fun _=>pure (order.filterMap (es1[·]?),t')) >>= _) _ _ _
   rw[if_neg (by simp_all)]
   refine k3 (k3 (td (td ?_)))
   dsimp only
   refine wpAny_storeSet_of e1 rfl ?_ (ve (by lia))
   exact td (h1 _ _ ((Qk _ _ _).trans (Qk _ _ _)) ⟨_,_,t',yV e1 rfl _ t',hex,rfl,by simp_all⟩ (pm2.trans pm))
  ·rw[Bool.not_eq_true] at c
   rw[c]
   exact td (h1 _ es1 (Qk _ _ _) ⟨_,_,t1,e1,hex,rfl,by rw[sz];exact P.no c⟩ pm)
 ·have:t.mask<=511:=by rcases g.tb.m with h | h | h | h<;>lia
  unfold P4 at k1
  lia
end
section
variable {prog:NW}{w:Oo}{A:Om}{R:Result->NF->Prop}{I:Addr}{fp wr:List Addr}{n:Nat}{P:Nat->NB->Prop}{St:Nat->Heap->Prop}
theorem Fh (W:T4 prog w A.in1 I fp wr n P St) (S) (hSf:S∉fp) (J:Nat->Heap->Prop)
  (keep:∀i h h',J i h->(∀b o,b∉wr->h.get? b=some o->h'.get? b=some o)->J i h')
  (step:∀i v s Q E , i<n->P i v->J i s.heap->(∀b h' tk,QA S s.heap h'->J (i+1) h'->Q b { s with heap:=h',toks:=tk })->wpAny (model prog w) A.in1 (setAdd S v) Q E s) :
  ∀k i s , n - i=k->i<=n->St i s.heap->J i s.heap →
   (∀h' tk,(∀b o,b∉S::wr->s.heap.get? b=some o->h'.get? b=some o)->J n h'->R (.ok (.ret .none)) { s with heap:=h',toks:=tk }) →
   codeAny (model prog w) A (.builtin "set.update.loop" ⟨[.ref S,.ref I],[]⟩) R s:=by
 intro k
 induction k with
 | zero=>
  intro i s hk hi hst hJ hR
  have hin:i=n:=by lia
  subst hin
  refine Pd F.entry_set_update_loop ?_
  rw[Pu Q3 _]
  refine k3 (W.done s _ _ hst fun h' tk hm=>?_)
  exact td (hR _ _ (fun b o hb e=>hm b o (fun z=>hb (ox _ z)) e) (keep _ _ _ hJ hm))
 | succ k ih=>
  intro i s hk hi hst hJ hR
  have hlt:i<n:=by lia
  refine Pd F.entry_set_update_loop ?_
  rw[Pu Q3 _]
  refine k3 (W.item i s _ _ hlt hst fun v h' tk hP hst' hm=>?_)
  refine k3 (OR (step i v _ _ _ hlt hP (keep _ _ _ hJ hm) fun b h2 tk2 sb J2=>?_))
  refine td ⟨R8 Q3 _,ih (i+1) _ (by lia) hlt (W.frame _ _ _ hst' fun b hb o e=>?_) J2 fun h3 tk3 m3 J3=>?_⟩
  ·rw[sb.2 b (fun z:b=S=>hSf (z ▸ hb))];exact e
  ·refine hR h3 tk3 (fun b o hb e=>m3 b o hb ?_) J3
   rw[sb.2 b (fun z:b=S=>hb (by simp_all))]
   simp_all
end
theorem GJ (a)
  (h:Q₁ (.ref s.heap.objs.size) { s with heap:=s.heap.push { cls:=.type "set", dict:=none,data:=.set #[] 0 (.fresh 0 0 (!byT w)) } }) :
  codeAny (model prog w) A (.call (.builtin "set.__new__") ⟨[.type "set", a],[]⟩) (wants Q₁ E) s:=by
 refine QZ ?_
 refine k3 (R9 (F.newCall_set_1 a) (td ⟨R8 F.plain_set_new _,Pd F.entry_set_new ?_⟩))
 unfold OJ.«set.__new__» OJ.Frozenset.newClass
 have hsub:=sub_set_self
 wp_walk
 refine Qn (td ?_)
 refine k3 (wpAny_alloc (td ?_))
 exact td h
noncomputable abbrev oJ (w:Oo):Obj:={ cls:=.type "set", dict:=none,data:=.set #[] 0 (.fresh 0 0 (!byT w)) }
structure Src (prog) (w) (T) (a) (n) (P) (OK:Heap->Prop):Prop where
 obj:∀h,OK h->∃o,h.get? a=some o/\o.cls=.type T
 keep:∀h h':Heap,OK h->(∀o,h.get? a=some o->h'.get? a=some o)->OK h'
 iter:∀A s , A.handled=none->OK s.heap->∃oI St,
  (∀E Q , Q (.ref s.heap.objs.size) { s with heap:=s.heap.push oI }->wpAny (model prog w) A (pyIter (.ref a)) Q E s) ∧
  (∀A':Om,A'.handled=none->T4 prog w A' s.heap.objs.size [s.heap.objs.size,a] [s.heap.objs.size] n P St)/\St 0 (s.heap.push oI)
 s1:isSubtype (.type T) (.type "set")=pure false
 s2:isSubtype (.type T) (.type "frozenset")=pure false
 nd:(QC T == QC "dict")=false
set_option maxHeartbeats 3200000 in
theorem HD {prog:NW}{w:Oo}{B:Om}{Er:NB->NF->Prop}{z:NF}{T:String}{a:Addr}{n:Nat}{P:Nat->NB->Prop}{OK:Heap->Prop}{Q:NB->NF->Prop} (K:Src prog w T a n P OK)
  (hh:B.handled=none) (hok:OK z.heap) (J:Nat->Heap->Prop) (j0:∀h,h.get? z.heap.objs.size=some (oJ w)->(∀b o,z.heap.get? b=some o->h.get? b=some o)->J 0 h)
  (keep:∀i h h',J i h->(∀b o,b≠z.heap.objs.size+1->h.get? b=some o->h'.get? b=some o)->J i h')
  (step:∀(A:Om) i v (s:NF) (Q:Bool->NF->Prop) (E:NB->NF->Prop),A.units<=B.units+20->i<n->P i v->J i s.heap->(∀b h' tk,QA z.heap.objs.size s.heap h'->J (i+1) h'->Q b { s with heap:=h',toks:=tk })->wpAny (model prog w) A (setAdd z.heap.objs.size v) Q E s)
  (fin:∀(g':Heap) (tk:Nat),J n g'->(∀b o,b<z.heap.objs.size->z.heap.get? b=some o->g'.get? b=some o)->Q (.ref z.heap.objs.size) { z with heap:=g',toks:=tk }) :
  wpAny (model prog w) B (call (.type "set") [.ref a]) Q Er z:=by
 obtain⟨_,_,_⟩:=OM.mro
 have:=OM.made
 have:=OM.sub
 refine RY (QZ ?_)
 show wpAny _ _ (callAny (.type "set") _) _ _ _
 refine td ⟨RK _ (by decide +kernel),Pd F.entry_type_call ?_⟩
 rw[Om.under_plain (weight_type_call_type "set" [.ref a] []) rfl]
 have:=OM.notType
 have:=OM.canCreate
 have:=F.typeCall_set_1 (.ref a)
 repeat (any_goals (first | assumption | wp_step))
 refine Pg (GJ (.ref a) (E:=Er) (Q₁:=fun v y=>v=.ref z.heap.objs.size/\y={ z with heap:=z.heap.push (oJ w) }) ⟨rfl,rfl⟩) fun r y hr=>?_
 cases r with
 | error e=>exact hr
 | ok fl=>
  cases fl with
  | ret v=>
   obtain⟨rfl,rfl⟩:=hr
   have hS:(z.heap.push (oJ w)).get? z.heap.objs.size=some (oJ w):=NH _ rfl
   have hT:NF.TypeIs { z with heap:=z.heap.push (oJ w) } (.ref z.heap.objs.size) "set" := ⟨_,hS,rfl⟩
   have:=OM.init.lookup
   have:=OM.init.bind (.ref z.heap.objs.size)
   repeat (any_goals (first | assumption | wp_step))
   refine Pg (codeAny_call_builtin (R:=wants (fun r y=>r=.none/\∃g' tk,y={ z with heap:=g',toks:=tk }/\J n g' ∧
     (∀b o,b<z.heap.objs.size->z.heap.get? b=some o->g'.get? b=some o)) Er) OM.init.plain F.entry_set_init (check_set_init_1 hT ?_)) fun r₂ y₂ hr₂=>?_
   ·obtain⟨ol,hol,hcl⟩:=K.obj _ hok
    have hlS:a<z.heap.objs.size:=tv hol
    obtain⟨oc,od,oda,osl⟩:=ol
    simp only at hcl
    subst hcl
    have hol':(z.heap.push (oJ w)).get? a=some { cls:=.type T,dict:=od,data:=oda,slots:=osl }:=k5 _ hol
    have:=K.s1
    have:=K.s2
    have:=K.nd
    have ok1:OK (z.heap.push (oJ w)):=K.keep _ _ hok fun o e=>k5 _ e
    unfold OJ.«set.__init__» noKeywords OJ.Frozenset.updateFrom
    generalize hPI:pyIter=PI
    wp_walk
    subst hPI
    obtain⟨oI,St,hit,W,st⟩:=K.iter B.in1.in1 { z with heap:=z.heap.push (oJ w) } hh ok1
    refine hit _ _ ?_
    refine k3 (RQ ?_)
    have sz:(z.heap.push (oJ w)).objs.size=z.heap.objs.size+1:=Rl _ _
    have W':=W B.in1.in1.in1 hh
    rw[show({ z with heap:=z.heap.push (oJ w) }:NF).heap.objs.size=z.heap.objs.size+1 from sz] at W'
    show codeAny _ _ (.builtin "set.update.loop" ⟨[.ref z.heap.objs.size,.ref (z.heap.push (oJ w)).objs.size],[]⟩) _ _
    rw[sz]
    refine Fh W' z.heap.objs.size ?hSf J (fun i h h' j k=>keep i h h' j fun b o hb e=>k b o (by simpa using hb) e) (fun i v s Q E hi hp hj hq=>step _ i v s Q E ?un hi hp hj hq) (n - 0) 0 _ (by lia) (OU _) st ?hJ0 ?hR
    case hSf=>simp only[NQ,PX,or_false,not_or];exact⟨NS (Ph _),Qd hlS⟩
    case un=>show B.units+3<=_;lia
    case hJ0=>exact j0 _ (k5 _ hS) fun b o e=>k5 _ (k5 _ e)
    case hR=>
     intro h' tk hm hJ
     show wpAny _ _ _ _ _ _
     refine td ?_
     show wpAny _ _ (ret Qq) _ _ _
     refine td ⟨rfl,h',tk,rfl,hJ,fun b o hb e=>hm b o ?_ (k5 _ (k5 _ e))⟩
     simp only[NQ,PX,or_false,not_or]
     exact⟨NS hb,NS (Qa hb)⟩
   ·cases r₂ with
    | error e=>exact hr₂
    | ok fl₂=>
     cases fl₂ with
     | ret r=>
      obtain⟨rfl,g',tk,rfl,hS',hk'⟩:=hr₂
      repeat (any_goals (first | assumption | wp_step))
      exact fin _ _ hS' hk'
     | _=>exact hr₂.elim
  | _=>exact hr.elim
theorem yf {α:Type} (next:Nat->Nat):∀(f k:Nat) (l:List α) (out:Array α),l.length=f->(Tn next f k l out).toList.Perm (out.toList++l)
 | 0,k,l,out,h=>by
  have:l=[]:=Q1.mp h
  subst this
  unfold Tn;simp
 | f+1,k,l,out,h=>by
  unfold Tn
  have hl:next k % l.length<l.length:=R5 _ (by lia)
  rw[NM hl]
  refine(yf next f (k+1) _ _ (by rw[List.length_eraseIdx_of_lt hl,h];rfl)).trans ?_
  rw[R4,Oj]
  refine Sw.append_left _ ?_
  generalize next k % l.length=i at hl
  clear h
  induction l generalizing i with
  | nil=>simp at hl
  | cons a r ih=>
   cases i with
   | zero=>simp
   | succ i=>
    exact(Sw.swap _ _ _).trans ((ih i (by simpa using hl)).cons a)
theorem Ay (next) (xs:Array α):(pickOrder next xs).toList.Perm xs.toList:=by
 unfold pickOrder
 simpa using yf next xs.size 0 xs.toList #[] (by simp)
noncomputable def iY (w:Oo) (S:Addr) (ep:Nat) (es:Array (Int × NB)):Array (Int × NB):=if byT w then pickOrder (w.params.setOrder S ep) es else es
theorem rz (w) (S) (ep) (es):(iY w S ep es).toList.Perm es.toList:=by
 unfold iY;split
 ·exact Ay _ _
 rfl
noncomputable def plF (t:Ox):Nat->Nat
 | 0=>0
 | j+1=>t.place.getD j 0+1
noncomputable def slW (w:Oo) (t:Ox) (j:Nat):Nat:=if byT w then 0 else plF t j
theorem xK (T:Tb t) (hj:j<=t.place.size):OG t.place (plF t j)=j:=by
 have key:∀x,(∀i (h:i<t.place.toList.length),i<j->t.place.toList[i]<x)->(∀i (h:i<t.place.toList.length),j<=i->x<=t.place.toList[i])->OG t.place x=j:=by
  intro x a b
  obtain⟨r,e,hr,a',b'⟩:=kK x T.so
  rw[e]
  rcases Nat.lt_trichotomy r j with c | c | c
  ·grind
  ·exact c
  grind
 cases j with
 | zero=>exact key 0 (fun i h c=>by lia) (fun i h c=>OU _)
 | succ j=>
  have hl:j<t.place.toList.length:=by grind
  have e:t.place.getD j 0=t.place.toList[j]:=getD_at (by lia)
  show OG t.place (t.place.getD j 0+1)=j+1
  refine key _ (fun i h c=>?_) (fun i h c=>?_)
  ·rcases QT i j with d | d
   ·have:=NX.mp T.so i j h hl d;lia
   grind
  ·have:=NX.mp T.so j i hl h (by lia);lia
theorem slot_next:Slot "set_iterator" "__next__" "set_iterator.__next__" :=
 .of (owner:="set_iterator") (n:="__next__") (by rfl) (by rfl) (by rfl) (by rfl)
  (by exact .inl (by rfl)) (by rfl)
theorem rR:Slot "set_iterator" "__iter__" "set_iterator.__iter__" :=
 .of (owner:="set_iterator") (n:="__iter__") (by rfl) (by rfl) (by rfl) (by rfl)
  (by exact .inl (by rfl)) (by rfl)
theorem entry_next:entryFor table "set_iterator.__next__" = some OJ.«set_iterator.__next__»:=entryFor_of_tree (by rfl)
theorem v9:entryFor table "set_iterator.__iter__" = some OJ.«dict_keyiterator.__iter__»:=
 entryFor_alias (id':="dict_keyiterator.__iter__") (by kernel_rfl) rfl (by decide +kernel) (by kernel_rfl)
theorem xH:entryFor table "set.__iter__" = some OJ.«frozenset.__iter__»:=
 entryFor_alias (id':="frozenset.__iter__") (by kernel_rfl) rfl (by decide +kernel) (by kernel_rfl)
theorem ux:Manifest.owners.lookup (String.ofList ['r','o','t','a','r','e','t','i','_','t','e','s'].reverse)=some Manifest.sig_set_iterator:=by kernel_rfl
theorem args_next (a):argsOk "set_iterator.__next__" ⟨[a],[]⟩:=by
 unfold argsOk;rw[signature?_of (n:=['_','_','t','x','e','n','_','_']) (by rfl) ux];rfl
theorem zX (a):argsOk "set_iterator.__iter__" ⟨[a],[]⟩:=by
 unfold argsOk;rw[signature?_of (n:=['_','_','r','e','t','i','_','_']) (by rfl) ux];rfl
noncomputable def gv (h:Heap) (S:Addr) (es:Array (Int × NB)) (ep:Nat) (t:Ox):Prop:=∃o,h.get? S=some o/\o.ExactSet/\o.data=.set es ep t
noncomputable def uN (h:Heap) (I S:Addr) (sl i n ep:Nat):Prop:=h.get? I=some { cls:=.type "set_iterator", data:=.fields #[rawInt sl,rawInt i,.ref S,rawInt n,rawInt ep] }
section
variable {prog:NW}{w:Oo}{A:Om}{E:NB->NF->Prop}{s:NF}{S I:Addr}{es:Array (Int × NB)}{ep:Nat}{t:Ox}
theorem gv.typeIs (x:gv s.heap S es ep t):s.TypeIs (.ref S) "set" := let ⟨o,a,b,_⟩:=x;⟨o,a,b.1⟩
theorem gv.keep {h h':Heap} (x:gv h S es ep t) (k:∀o,h.get? S=some o->h'.get? S=some o):gv h' S es ep t:=let ⟨o,a,b⟩:=x;⟨o,k o a,b⟩
theorem Cu (g:Gd (byT w) t es.size) (x:gv s.heap S es ep t) (h:Q false s):wpAny (model prog w) A (setDrawn S) Q E s:=by
 obtain⟨o,a,b,c⟩:=x
 refine k3 (Pl a c g.fits ?_)
 refine k3 ?_
 refine k3 (Qn (td ?_))
 show wpAny _ _ (pure (!_&&(!t.plain&&_))) _ _ _
 rw[g.pl]
 simp only[Bool.not_true,Bool.false_and,Bool.and_false]
 exact td h
theorem B5 (g:Gd (byT w) t es.size) (x:gv s.heap S es ep t)
  (hQ:Q (.ref s.heap.objs.size) { s with heap:=s.heap.push { cls:=.type "set_iterator", data:=.fields #[rawInt 0,rawInt 0,.ref S,rawInt es.size,rawInt ep] } }):wpAny (model prog w) A (pyIter (.ref S)) Q E s:=by
 have T:=x.typeIs
 refine wpAny_pyIter_slot T F.slot_set_iter (O0 F.slot_set_iter T xH ?_ (F.args_set_iter_1 _))
 obtain⟨o,a,b,c⟩:=id x
 unfold OJ.«frozenset.__iter__» OJ.Frozenset.slot0 slotArgs
 simp only[bind_assoc]
 refine k3 (td ?_)
 refine k3 (td ?_)
 refine k3 (k3 (wpAny_setEntries_of a c g.fits (td ?_)))
 refine k3 (Cu g x ?_)
 refine k3 (td ?_)
 refine k3 (wpAny_setEpoch_of a c g.fits ?_)
 refine k3 (Oq (td ⟨_,rfl,"set_iterator", _,⟨_,NH _ rfl,rfl⟩,slot_next.lookup,?_⟩))
 exact hQ
theorem zy (g:Gd (byT w) t es.size) (x:gv s.heap S es ep t){j:Nat} (hj:j<=es.size){Q:Option (NB × Nat)->NF->Prop}
  (h:Q (((iY w S ep es)[j]?).map fun e=>(e.2,slW w t (j+1))) s):wpAny (model prog w) A (setNext S (slW w t j) j ep) Q E s:=by
 obtain⟨o,a,b,c⟩:=id x
 refine k3 (Pl a c g.fits ?_)
 refine k3 ?_
 refine k3 (Qn (td ?_))
 unfold iY slW at h
 by_cases hb:byT w=true
 ·rw[if_pos hb] at h
  show wpAny _ _ (if byT w=true then _ else _) _ _ _
  rw[if_pos hb,if_neg (by simp)]
  refine k3 ?_
  refine k3 (Pl a c g.fits ?_)
  refine k3 ?_
  refine k3 (Qn (td ?_))
  show wpAny _ _ (if byT w=true then _ else _) _ _ _
  rw[if_pos hb]
  refine k3 (Qn (td (td ?_)))
  unfold slW
  simp only[if_pos hb] at h ⊢
  exact h
 ·simp only[if_neg hb] at h
  show wpAny _ _ (if byT w=true then _ else _) _ _ _
  rw[if_neg hb]
  show wpAny _ _ (if (!t.plain&&decide (es.size > 1))=true then _ else _) _ _ _
  rw[g.pl]
  show wpAny _ _ ((if (!t.led&&!es.isEmpty)=true then unsupported "set:maker-not-led" else pure PUnit.unit) >>= _) _ _ _
  rw[show t.led=true by rw[g.led];simp_all]
  have e:OG t.place (slW w t j)=j:=by
   unfold slW;rw[if_neg hb];exact xK g.tb (by rw[g.sz];exact hj)
  rw[e]
  refine td ?_
  cases q:es[j]? with
  | none=>simp_all
  | some v=>
   rw[q] at h
   have hl:j<t.place.size:=by rw[g.sz];grind
   rw[P5 hl]
   simp only[plF,Array.getD,hl] at h
   exact h
theorem l_:(iY w S ep es).size=es.size:=by rw[<- NO,(rz w S ep es).length_eq,NO]
theorem zx (g:Gd (byT w) t es.size) (hi:uN s.heap I S (slW w t j) j es.size ep) (x:gv s.heap S es ep t)
  (h:wpAny (model prog w) A (do
   match ← setNext S (slW w t j) j ep with
   | some (x,next)=>
    setField (.ref I) 0 (rawInt next)
    setField (.ref I) 1 (rawInt ((j:Int)+1))
    ret x
   | none=>setField (.ref I) 2 .none;raiseNew (← newExc (.type "StopIteration") [])) P E s) :
  wpAny (model prog w) A (OJ.«set_iterator.__next__» ⟨[.ref I],[]⟩) P E s:=by
 obtain⟨o,a,b,c⟩:=id x
 unfold OJ.«set_iterator.__next__» slotArgs
 refine k3 (td ?_)
 refine k3 (wpAny_fieldsOf hi rfl ?_)
 refine k3 (wpAny_setEntries_of a c g.fits ?_)
 rw[if_neg (by simp)]
 exact h
end
section
variable {prog:NW}{w:Oo}{A:Om}{E:NB->NF->Prop}{s:NF}{S I:Addr}{es:Array (Int × NB)}{ep:Nat}{t:Ox}
theorem uN.typeIs (hi:uN s.heap I S sl j n ep):s.TypeIs (.ref I) "set_iterator" := ⟨_,hi,rfl⟩
theorem next_item (g:Gd (byT w) t es.size) (hi:uN s.heap I S (slW w t j) j es.size ep) (x:gv s.heap S es ep t) (hj:j<es.size)
  (hQ:∀h' e,(iY w S ep es)[j]?=some e->uN h' I S (slW w t (j+1)) (j+1) es.size ep->QA I s.heap h'->Q (some e.2) { s with heap:=h' }):wpAny (model prog w) A (pyNext (.ref I)) Q E s:=by
 refine k3 (S0 (Pc hi.typeIs slot_next (O0 slot_next hi.typeIs entry_next (zx g hi x ?_) (args_next _))))
 have hl:j<(iY w S ep es).size:=by rw[l_];exact hj
 refine k3 (zy g x (QP hj) ?_)
 rw[P5 hl]
 refine k3 (RN hi (by simp) fun h1 e1 s1=>?_)
 refine k3 (RN e1 (by simp) fun h2 e2 s2=>?_)
 refine td ⟨_,rfl,td (hQ h2 _ (P5 hl) ?_ (s1.trans s2))⟩
 exact e2
theorem next_end (hh:A.handled=none) (g:Gd (byT w) t es.size) (hi:uN s.heap I S (slW w t j) j es.size ep) (x:gv s.heap S es ep t) (hj:j=es.size)
  (hQ:∀h',Heap.ExtBut I s.heap h'->Q none { s with heap:=h' }):wpAny (model prog w) A (pyNext (.ref I)) Q E s:=by
 refine k3 (S0 (Pc hi.typeIs slot_next (O0 slot_next hi.typeIs entry_next (zx g hi x ?_) (args_next _))))
 refine k3 (zy g x (by lia) ?_)
 rw[Q7 (by rw[l_];lia)]
 refine k3 (RN hi (by simp) fun h1 e1 s1=>?_)
 show wpAny _ _ (newExc (.type "StopIteration") [] >>= _) _ _ _;refine k3 ?_
 refine k3 (Oq (k3 (R9 (by rfl) (Oq ?_ (by size_fits)))) (by size_fits))
 simp only[raiseNew];refine k3 (wpAny_handled ?_);rw[show A.in1.handled=none from hh]
 refine k3 (td (wpAny_throw ?_));refine k3 (wpAny_isInstance ⟨_,NH _ rfl,rfl⟩ isSubtype_stop ?_)
 exact td (hQ _ ((s1.extBut.push _).push _))
theorem zY (hh:A.handled=none) (I) (ne:S≠I) (g:Gd (byT w) t es.size):T4 prog w A I [I,S] [I] es.size (fun j v=>∃e,(iY w S ep es)[j]?=some e/\v=e.2) (fun j h=>uN h I S (slW w t j) j es.size ep/\gv h S es ep t) where
 sub:=fun b hb=>by simp_all
 frame:=fun _ _ _ st hk=>⟨hk I (by simp) _ st.1,st.2.keep fun o e=>hk S (by simp) o e⟩
 item:=fun j s Q E hj st hQ=>next_item g st.1 st.2 hj fun h' e he a b=>hQ _ h' s.toks ⟨e,he,rfl⟩ ⟨a,st.2.keep fun o e=>b.extBut S o ne e⟩ fun c o hc e=>b.extBut c o (fun z=>hc (by simp[z])) e
 done:=fun s Q E st hQ=>next_end hh g st.1 st.2 rfl fun h' a=>hQ h' s.toks fun c o hc e=>a c o (fun z=>hc (by simp[z])) e
 self:=fun _ _ _ _ st hQ=>wpAny_pyIter_slot st.1.typeIs rR (O0 rR st.1.typeIs v9 (td ⟨_,rfl,"set_iterator", _,st.1.typeIs,slot_next.lookup,hQ⟩) (zX _))
theorem AZ (hT:s.TypeIs (.ref S) "set") (h:Q false s):wpAny (model prog w) A (OJ.List.listLengthHint (.ref S)) Q E s:=by
 refine k3 (wpAny_specialOf hT F.slot_set_len.lookup ?_)
 generalize hid:("set.__len__" : String)=id0
 wp_delta
 subst hid
 refine k3 (wpAny_isInstance (b:=true) hT (by rfl) ?_)
 refine Sy (fun hab=>absurd hab (by decide)) (fun _=>?_)
 refine k3 (Rq hT ?_)
 exact td h
theorem gv.lt {h:Heap} (x:gv h S es ep t):S<h.objs.size:=let ⟨_,a,_⟩:=x;tv a
theorem DF (g:Gd (byT w) t es.size):SN prog w "set" S S es.size (fun j v=>∃e,(iY w S ep es)[j]?=some e/\v=e.2) (fun h=>gv h S es ep t) where
 type:=fun _ x=>x.typeIs
 there:=fun _ x=>⟨x.lt,x.lt⟩
 keep:=fun _ _ x k=>x.keep fun o e=>k S (.inl rfl) o e
 notList:=by decide
 notTuple:=by decide
 hint:=fun _ _ _ _ x hq=>AZ x.typeIs hq
 iter:=fun _ s hh x=>⟨_,_,(fun _ _ hq=>B5 g x hq),zY hh _ (NS x.lt) g,⟨by
  have:slW w t 0=0:=by unfold slW;split<;>rfl
  unfold uN
  rw[this]
  exact NH _ rfl,x.keep fun o e=>k5 _ e⟩⟩
end
section
variable {prog:NW}{w:Oo}{A:Om}{E:NB->NF->Prop}{s:NF}
theorem uR {T:String}{r d:Addr}{n:Nat}{P:Nat->NB->Prop}{OK:Heap->Prop} (K:SN prog w T r d n P OK) (hh:A.handled=none) (hok:OK s.heap) (hn:n<=sizeLine){Q:List NB->NF->Prop}
  (h:∀(h':Heap) tk (acc:Array NB),s.heap.objs.size<=h'.objs.size->(∀b o,s.heap.get? b=some o->h'.get? b=some o)->SQ P acc n->Q acc.toList { s with heap:=h',toks:=tk }):wpAny (model prog w) A (collect (.ref r)) Q E s:=by
 refine k3 (RQ (Pd entry_proto_collect' ?_))
 refine k3 (Rz (td ⟨RK _ (by simp),Pd entry_list_iadd' ?_⟩))
 have hlt:=K.there _ hok
 rw[Pu (show plainId "list.__iadd__" = true by decide +kernel) _]
 refine PySem.W.kdl_extend (R:=fun r s'=>match r with
  | .ok (.ret v)=>wpAny (model prog w) A (match v with
   | .ref a=>do
    match (← load a).data with
    | .seq xs _=>pure xs.toList
    | _=>unsupported "internal:collect"
   | _=>unsupported "internal:collect") Q E s'
  | .ok _=>False
  | .error e=>E e s') (s:={ s with heap:=s.heap.push (seqObj "list" #[] 0) }) K hh (K.keep _ _ hok fun b _ o e=>k5 _ e) _ (Qd hlt.1) (Qd hlt.2) _ 0 (NH _ rfl) (fun h' tk acc c kp e hi=>?_) hn
 refine k3 (Tz e ?_)
 exact td (h h' tk acc (QP (tv e)) (fun b o q=>kp b o (NS (tv q)) (k5 _ q)) hi)
theorem wA {T:String}{r d:Addr}{n:Nat}{P:Nat->NB->Prop}{OK:Heap->Prop} (K:SN prog w T r d n P OK) (hh:A.handled=none) (hok:OK s.heap) (hn:n<=sizeLine){Q:NB->NF->Prop}
  (h:∀(h':Heap) tk (acc:Array NB),s.heap.objs.size<=h'.objs.size->(∀b o,s.heap.get? b=some o->h'.get? b=some o)->SQ P acc n →
   wpAny (model prog w) A.in1.in1 (OJ.«list.sort» ⟨[.ref h'.objs.size],[]⟩) (fun fin s'=>∃v,fin=.done (.ret v)/\Q (.ref h'.objs.size) s') E { s with heap:=h'.push (seqObj "list" acc.toList.toArray 0),toks:=tk }) :
  wpAny (model prog w) A (call (.builtin "sorted") [.ref r]) Q E s:=by
 refine Calls.call_function_entry kind_sorted plain_sorted entry_sorted (args_sorted1 _) ?_
 refine k3 (td ?_)
 refine k3 (uR (A:=A.in1) K hh hok hn fun h' tk acc le kp hi=>?_)
 refine k3 (Rz ?_ (by rw[NO,hi.1];exact hn))
 refine k3 (OR (O0 slot_list_sort ⟨_,NH _ rfl,rfl⟩ entry_list_sort ?_ (args_list_sort _)))
 refine OW (h h' tk acc le kp hi) (fun fin s' ⟨v,e,q⟩=>⟨v,e,td ⟨_,rfl,q⟩⟩) fun _ _ x=>x
theorem zQ (hi:SQ (fun j v=>∃e,(iY w S ep es)[j]?=some e/\v=e.2) acc es.size):acc.toList.Perm (es.toList.map (·.2)):=by
 have e:acc.toList=(iY w S ep es).toList.map (·.2):=by
  apply Qc
  intro j
  rw[NU,NP,NP]
  cases q:acc[j]? with
  | none=>
   have:(iY w S ep es)[j]?=none:=by
    rw[Array.getElem?_eq_none_iff] at q ⊢
    rw[l_,<- hi.1];exact q
   simp_all
  | some v=>
   obtain⟨e,h1,h2⟩:=hi.2 j v q
   simp_all
 rw[e]
 exact(rz w S ep es).map _
end
end L2.ST
namespace L2.FE
open PySem PySem.Spec PyProof.Rows L2.ST
section
variable {X:Cx}{g:GG}{ε:EE}{e:Expr}{es:List Expr}{pos pos1:Pos}{mr:MA}{K:gV}
theorem Bj {id T:String}{p q:Pos} (hc2:cb X (.builtin id) r2) (hc1:cb X (.type T) r1) (im:mj X.K g ε f (fun vs H Q=>r1 vs H (fun v H1=>r2 [v] H1 Q)))
  (hg:Gl X x) (hm:X.mg x=none) (hv:bootBuiltins x=some (.builtin id)) (hg1:Gl X y) (hm1:X.mg y=none) (hv1:bootBuiltins y=some (.type T)) (ha:PA X (e::es) (tMA X.K g ε mr)) (hn:x≠"__name__" := by decide) (hdb:(x == ("__debug__" : Str))=false:=by decide) (hn1:y≠"__name__" := by decide) (hdb1:(y == ("__debug__" : Str))=false:=by decide)
  (he1:starEach (e::es) X.env=(false,eval e X.env)::starEach es X.env:=by rfl) (hpl1:(backTo pos1 (starEach es X.env)).any (·.1)=false:=by rfl)
  (he:starEach [Expr.Call (.Name y q) (e::es) [] pos1] X.env=(false,eval (Expr.Call (.Name y q) (e::es) [] pos1) X.env)::starEach [] X.env:=by rfl) (hpl:(backTo pos (starEach [] X.env)).any (·.1)=false:=by rfl) :
  PE X (.Call (.Name x p) [.Call (.Name y q) (e::es) [] pos1] [] pos) (tM X.K g ε (ah f mr)):=
 PE.imp (nN hc2 hg hm hv (jG (jF hc1 hg1 hm1 hv1 ha hn1 hdb1 he1 hpl1) nK he) hn hdb he hpl) fun _ _ _ t=>(wG (f:=f) im t :)
end
end L2.FE
namespace L2.ST
open PySem PySem.W PySem.Spec PyProof.Rows PySem.Calls L2.Srt L2.SM
section
variable {prog:NW}{w:Oo}{A:Om}{E:NB->NF->Prop}{s:NF}{vs us:List NB}{xss:List (List Int)}{h h':Heap}
theorem Ci (p:vs.Perm us):∀{xss},Tps h us xss->∃yss,Tps h vs yss/\yss.Perm xss:=by
 induction p with
 | nil=>intro xss r;exact⟨xss,r,.refl _⟩
 | cons x _ ih=>
  intro xss r
  cases r with
  | cons a b c d r=>
   obtain⟨yss,q,pm⟩:=ih r
   exact⟨_,.cons a b c d q,pm.cons _⟩
 | swap x y l=>
  intro xss r
  cases r with
  | cons a b c d r=>
   cases r with
   | cons a2 b2 c2 d2 r=>exact⟨_,.cons a2 b2 c2 d2 (.cons a b c d r),.swap _ _ _⟩
 | trans _ _ ih1 ih2=>
  intro xss r
  obtain⟨y1,q1,p1⟩:=ih2 r
  obtain⟨y2,q2,p2⟩:=ih1 q1
  exact⟨y2,q2,p2.trans p1⟩
theorem AH {a:Addr}{n:Nat}{P:T1->NF->Prop} (ho:s.heap.get? a=some (seqObj "list" vs.toArray n)) (hz:vs.length<=306) (r:Tps s.heap vs xss) (bd:∀xs∈xss,Bd xs/\xs.length<=20) (nd:(xss.map (kT 20)).Nodup) (ne:∀xs∈xss,xs≠[])
  (hP:∀out:List NB,out.Perm vs->out.Pairwise (fun x y=>kvH s.heap x<kvH s.heap y)->P (.done (.ret .none)) { s with heap:=sortedHeap s.heap a vs out.toArray }) :
  wpAny (model prog w) A (OJ.«list.sort» ⟨[.ref a],[]⟩) P E s:=by
 have len:=r.len
 by_cases h2:vs.length<2
 ·refine qq ho h2 (hP vs (.refl _) ?_)
  rcases vs with _ | ⟨x,_ | ⟨y,l⟩⟩
  ·exact .nil
  ·exact OS _ _
  ·exact absurd h2 (by simp)
 ·have keep:∀b o,b≠a->s.heap.get? b=some o->(dC s.heap a vs).get? b=some o:=fun b o hb q=>yL hb q
  have ta:∀{us:List NB} {zss:List (List Int)},Tps s.heap us zss->Tps (dC s.heap a vs) us zss:=by
   intro us zss r
   induction r with
   | nil=>exact .nil
   | @cons b o k us' xs vs' xss' e1 e2 e3 e4 _ ih=>
    refine .cons (keep b o (fun z=>?_) e1) e2 e3 e4 ih
    subst z
    rw[ho] at e1
    cases e1
    exact absurd e2 (by show ¬ (QC "list" = QC "tuple");decide)
  have r1:=ta r
  have kk:=List.map_inj_left.mp (r1.kv.trans r.kv.symm)
  exact j8 ho (by lia) (by lia) (qU (s:={ s with heap:=dC s.heap a vs }) r1 ne bd (by lia) fun κ cm=>⟨rfl,DA cm (by rw[r1.kv];exact nd)⟩) (fun out ⟨pm,sr⟩=>hP out pm (QU (fun hx hy lt=>by rw[kk _ (pm.mem_iff.mp hx),kk _ (pm.mem_iff.mp hy)] at lt;exact lt) sr))
theorem n5:∀{us:List NB}{xs:List Int},Rf us xs->PySem.ItemsAre (intKind prog w) xs us
 | _,_,.nil=>.nil
 | _,_,.cons n t r=>.cons (intKind_is _ _ _ _) (n5 r)
theorem CW (r:Tps h us xss):∀(i:Nat) v , us[i]?=some v->∃a xs,v=.ref a/\xss[i]?=some xs/\TK prog w h xs a:=by
 induction r with
 | nil=>simp
 | @cons a o k us xs vs xss e1 e2 e3 e4 _ ih=>
  intro i v e
  cases i with
  | zero=>
   simp at e
   subst e
   exact⟨a,xs,rfl,rfl,o,us,k,e1,e2,e3,n5 e4⟩
  | succ i=>simp_all
theorem DH (a:Addr) (its:Array NB):Src prog w "list" a its.size (fun i v=>its[i]?=some v) (fun h=>h.IsList a its) where
 obj:=fun h ⟨o,a,b,_⟩=>⟨o,a,b⟩
 keep:=fun h h' ⟨o,a,b⟩ k=>⟨o,k o a,b⟩
 iter:=fun A s hh x=>⟨_,_,(fun E Q hq=>R3 x hq),(fun A' hh'=>T4.list hh' _ a (by obtain⟨o,e,_⟩:=x;exact NS (tv e)) its),⟨⟨_,NH _ rfl,rfl,rfl⟩,by obtain⟨o,e,r⟩:=x;exact⟨o,k5 _ e,r⟩⟩⟩
 s1:=F.sub_list_set
 s2:=F.sub_list_frozenset
 nd:=by decide
noncomputable def WSt (w:Oo) (o:Obj) (us:List NB):Prop:=∃es ep t,o.ExactSet/\o.data=.set es ep t/\Gd (byT w) t es.size/\(es.toList.map (·.2)).Perm us
theorem Cc {B:Om}{Er:NB->NF->Prop}{z:NF}{a:Addr}{its:Array NB}{xss:List (List Int)}{Q:NB->NF->Prop}
  (hh:B.handled=none) (hu:B.units+20<cLine) (ht:z.heap.IsList a its) (hi:Tps z.heap its.toList xss) (nd:xss.Nodup) (hb:its.size<=306)
  (fin:∀(g':Heap) (tk:Nat) o,g'.get? z.heap.objs.size=some o->WSt w o its.toList->(∀b o,b<z.heap.objs.size->z.heap.get? b=some o->g'.get? b=some o)->Q (.ref z.heap.objs.size) { z with heap:=g',toks:=tk }) :
  wpAny (model prog w) B (call (.type "set") [.ref a]) Q Er z:=by
 have hl:=hi.len
 rw[NO] at hl
 refine HD (DH a its) hh ht (fun i h=>(∀b o,b<z.heap.objs.size->z.heap.get? b=some o->h.get? b=some o)/\∃es,HA w h z.heap.objs.size es/\(es.toList.map (·.2)).Perm (its.toList.take i)) ?_ ?_ ?_ ?_
 ·intro h e k
  exact⟨fun b o _ q=>k b o q,#[],⟨_,_,_,e,⟨rfl,rfl,rfl⟩,rfl,Hc _⟩,by simp⟩
 ·rintro i h h' ⟨kp,es,⟨o,ep,t,e,r⟩,q⟩ k
  exact⟨fun b o hb e=>k b o (NS (Qa hb)) (kp b o hb e),es,⟨o,ep,t,k _ o (NS (Ph _)) e,r⟩,q⟩
 ·rintro A i v s Q E hu' hi' hp ⟨kp,es,hS,pm⟩ hq
  have hit:its.toList[i]?=some v:=by rw[NP];exact hp
  have hi2:=hi.keeps fun b o q=>kp b o (tv q) q
  obtain⟨b,xs,rfl,ex,tk⟩:=CW hi2 i v hit
  have sz:es.size=i:=by
   have:=pm.length_eq
   rw[NJ,NO,Oa,NO] at this
   lia
  have tu:Im prog w s.heap es.toList xs:=fun e he=>by
   have m:=pm.mem_iff.mp (Oi.mpr ⟨e,he,rfl⟩)
   obtain⟨j,hj,ej⟩:=O6 m
   rw[Oa] at hj
   have:its.toList[j]?=some e.2:=by
    rw[<- ej,Ri,NM]
   obtain⟨b',ys,e1,e2,e3⟩:=CW hi2 j e.2 this
   refine⟨ys,b',e1,e3,fun z=>?_⟩
   subst z
   have hx:i<xss.length:=by lia
   have hy:j<xss.length:=by lia
   rw[NM hx] at ex
   rw[NM hy] at e2
   have:=(List.getElem_inj nd).mp (show xss[i]=xss[j] by rw[Oz ex,Oz e2])
   lia
  refine OR ?_
  have hA:A.units<cLine:=by lia
  refine k3 (wpAny_pyHash_tuple hA tk ?_)
  refine D3 (s:={ s with toks:=s.toks+(xs.length+1) }) hS (by lia) hA tk tu fun h' es' sb hS' pm'=>?_
  refine hq true h' _ sb ⟨fun b o hb e=>?_,es',hS',?_⟩
  ·rw[sb.2 b (NS hb)];exact kp b o hb e
  ·have:=pm'.map fun e=>e.2
   rw[Q0] at this
   refine this.trans ?_
   rw[List.take_succ,hit]
   exact Sw.append_right _ pm
 ·rintro g' tk ⟨_,es,⟨o,ep,t,e,hx,hd,g⟩,pm⟩ kp
  rw[OX (by rw[NO];exact NC _)] at pm
  exact fin g' tk o e ⟨es,ep,t,hx,hd,g,pm⟩ kp
end
end L2.ST
namespace L2
open PySem PySem.Spec PyProof.Rows L2.ST L2.Srt
structure OkV (xss:List (List Int)):Prop where
 hz:xss.length<=306
 bd:∀xs∈xss,Bd xs/\xs.length<=20
 nd:(xss.map (kT 20)).Nodup
 ne:∀xs∈xss,xs≠[]
theorem rF {α β:Type}{f:α->β}:∀{l:List α},(l.map f).Nodup->l.Nodup
 | [],_=>.nil
 | x::l,h=>by
  obtain⟨a,b⟩:=Pp.mp h
  exact Pp.mpr ⟨fun z=>a (Oi.mpr ⟨x,z,rfl⟩),rF b⟩
section
variable {X:Cx}
theorem AF (hc:X.calm=true) (hu:X.A.units+64<cLine):cb X (.type "set") (fun vs H Q=>∃p xs xss,vs=[.ref p]/\SqL X.K H p xs/\TpV X.K H xs xss/\OkV xss/\∀l o us,H l=none->WSt X.w o us->Vals xs us->Q (.ref l) (upd H l (FE.AtO l o))):=by
 intro pins s σ H xs0 us0 Q I r h
 obtain⟨p,xs,xss,rfl,hq,pr,ok,q⟩:=h
 obtain⟨u,rfl,rx⟩:=vals1 r
 cases rx
 obtain⟨its,rv,pl,hz⟩:=I.list hq
 have lx:=pr.len
 have li:=rv.length
 have h0:=ok.hz
 refine Cc (I.ok.hd hc) (by lia) pl.isList (by simpa using I.tps pr rv) (rF ok.nd) (by simp_all) fun g' tk o e hW hk=>?_
 exact⟨.ref s.heap.objs.size,_,I.laid (fun b o e=>hk b o (tv e) e) (NC _) (Kp e),rfl,q _ _ its (I.hok.fresh (NC _)) (by lia) rv⟩
theorem uX (hc:X.calm=true):cb X (.builtin "sorted") (fun vs H Q=>∃(p:Addr) (o:Obj) (us:List NB) (xs:List V) (xss:List (List Int)),vs=[.ref p]/\H p=some (FE.AtO p o)/\WSt X.w o us/\Vals xs us/\TpV X.K H xs xss/\OkV xss ∧
  ∀(l:Addr) (q:List Nat),q.Perm (ND xss.length)->(q.map fun i=>kT 20 (xss.getD i [])).Pairwise (· < ·)->H l=none->Q (.ref l) (upd H l (.lst (q.map fun i=>xs.getD i .non)))):=by
 intro pins s σ H xs0 us0 Q I r h
 obtain⟨p,o,us,xs,xss,rfl,hp,⟨es,ep,t,hx,hd,g,pm⟩,rv,pr,ok,q⟩:=h
 obtain⟨u,rfl,rx⟩:=vals1 r
 cases rx
 have ho:=(I.hok p _ hp).1
 have tp:=I.tps pr rv
 have h0:=ok.hz
 have lx:=pr.len
 have lu:=rv.length
 have hes:es.size=us.length:=by rw[<- pm.length_eq,NJ,NO]
 have h64:306<=sizeLine:=by decide
 refine wA (DF g) (I.ok.hd hc) ⟨o,ho,hx,hd⟩ (by lia) fun h' tk acc hle kp hi=>?_
 have va:=(zQ hi).trans pm
 have kp2:∀b o,s.heap.get? b=some o->(h'.push (seqObj "list" acc.toList.toArray 0)).get? b=some o:=fun b o e=>k5 _ (kp b o e)
 obtain⟨yss,ta,py⟩:=Ci va (tp.keeps kp2)
 refine AH (s:={ s with heap:=h'.push (seqObj "list" acc.toList.toArray 0),toks:=tk }) (NH _ rfl) (by rw[va.length_eq];lia) ta (fun xs hx=>ok.bd xs (py.mem_iff.mp hx)) ((py.map _).nodup_iff.mpr ok.nd) (fun xs hx=>ok.ne xs (py.mem_iff.mp hx)) fun out po so=>⟨_,rfl,?_⟩
 have pu:=po.trans va
 obtain⟨qs,hqs,e⟩:=By pu (range_getD us Qq)
 rw[show us.length=xss.length by lia] at hqs
 have kq:∀i∈qs,kvH (h'.push (seqObj "list" acc.toList.toArray 0)) (us.getD i Qq)=kT 20 (xss.getD i []):=fun i hi=>by
  have hi':i<xss.length:=by have:=hqs.mem_iff.mp hi;simpa using this
  have hv:i<us.length:=by lia
  have kk:=(tp.keeps kp2).kv
  have e1:(us.map (kvH (h'.push (seqObj "list" acc.toList.toArray 0))))[i]'(by simpa using hv)=(xss.map (kT 20))[i]'(by simpa using hi'):=by simp only[kk]
  simpa [hv,hi'] using e1
 have up:(qs.map fun i=>kT 20 (xss.getD i [])).Pairwise (· < ·):=by
  rw[e,OT] at so
  rw[OT]
  refine QU ?_ so
  intro i j hi hj lt
  rw[kq i hi,kq j hj] at lt
  exact lt
 obtain⟨k,hk⟩:=sortedHeap_at (NH _ rfl)
 have hn:=I.hok.fresh hle
 have ql:qs.length=xss.length:=by rw[hqs.length_eq,Rj]
 have len:(qs.map fun i=>xs.getD i V.non).length<=sizeLine:=by rw[NJ];lia
 have vp:=rT rv qs (fun i hi=>by
  have:=hqs.mem_iff.mp hi
  have:i<xss.length:=by simpa using this
  lia)
 refine⟨.ref h'.objs.size,upd H h'.objs.size (.lst (qs.map fun i=>xs.getD i .non)),I.laid (fun b o z=>?_) hle ⟨len,qs.map fun i=>us.getD i Qq,k,vp,?_⟩,rfl,q _ qs hqs up hn⟩
 ·have z':=kp b o z
  rw[sortedHeap_old (NS (tv z')) (by rw[size_push'];exact Qa (tv z'))]
  exact k5 _ z'
 ·rw[hk,e]
end
end L2
namespace L2.FE
open PySem PySem.Spec PyProof.Rows L2.ST L2.Srt
noncomputable def okV (xss:List (List Int)):Bool:=decide (xss.length<=306)&&xss.all (fun xs=>!xs.isEmpty&&decide (xs.length<=20)&&xs.all fun x=>decide (0<=x/\x<=98))&&decide ((xss.map (kT 20)).Nodup)
theorem A3 {xss:List (List Int)} (e:okV xss=true):OkV xss:=by
 unfold okV at e
 simp only[N_,decide_eq_true_eq,NZ] at e
 obtain⟨⟨hz,al⟩,nd⟩:=e
 refine⟨hz,fun xs hx=>⟨fun x hx'=>(al xs hx).2 x hx',(al xs hx).1.2⟩,nd,fun xs hx z=>?_⟩
 have:=(al xs hx).1.1
 rw[z] at this;simp at this
noncomputable def lW (nl:NL):List D->Hh->R D:=fun ds h=>match ds with
 | [d]=>match iH d h with
  | some xs=>match gO xs with
   | some xss=>if okV xss=true then nl ((oP xss).map vn) h else .bad
   | none=>.bad
  | none=>.bad
 | _=>.bad
section
variable {K:gV}{g:GG}{ε:EE}{w:Oo}
theorem Fj (r:aU K g α H h) (rd:aJ K g α H d x) (e:iH d h=some ds):∃p vs,x=.ref p/\SqL K H p vs/\ax K g α H ds vs:=by
 cases rd with
 | frl hq rs=>cases e;exact⟨_,_,rfl,hq.sq,rs⟩
 | ref hp=>obtain⟨vs,hv,rs⟩:=r.lst e hp;exact⟨_,vs,rfl,SqL.of hv,rs⟩
 | _=>cases e
theorem CO [ky nl]:mj K g ε (lW nl) (fun vs H Q=>∃p xs xss,vs=[.ref p]/\SqL K H p xs/\TpV K H xs xss/\OkV xss/\∀l o us,H l=none->WSt w o us->Vals xs us →
  ∃p' o' us' xs' xss',[V.ref l]=[V.ref p']/\upd H l (AtO l o) p'=some (AtO p' o')/\WSt w o' us'/\Vals xs' us'/\TpV K (upd H l (AtO l o)) xs' xss'/\OkV xss' ∧
  ∀l' (q:List Nat),q.Perm (ND xss'.length)->(q.map fun i=>kT 20 (xss'.getD i [])).Pairwise (· < ·)->upd H l (AtO l o) l'=none->jg Q (.ref l') (upd (upd H l (AtO l o)) l' (.lst (q.map fun i=>xs'.getD i .non)))):=by
 intro α H h a x Q r ra w
 cases ra with
 | nil=>exact w.elim
 | cons rd rr=>
  cases rr with
  | cons _ _=>exact w.elim
  | nil=>
   unfold lW at w
   dsimp only at w
   cases e0:iH _ h with
   | none=>rw[e0] at w;exact w.elim
   | some ds=>
    rw[e0] at w
    dsimp only at w
    obtain⟨p,vs,rfl,hq,rs⟩:=Fj r rd e0
    cases e:gO ds with
    | none=>rw[e] at w;exact w.elim
    | some xss=>
     rw[e] at w
     obtain⟨ok,w⟩:=WQ.gj w
     obtain⟨pr,ee0⟩:=kE rs e
     refine⟨p,vs,xss,rfl,hq,pr,A3 ok,fun l o us hl hW rv=>?_⟩
     have ex:Ext K α H α (upd H l (AtO l o)):=Ext.fresh hl
     have rs2:=rs.ext ex
     obtain⟨pr2,_⟩:=kE rs2 e
     refine⟨l,o,us,vs,xss,rfl,bH,hW,rv,pr2,A3 ok,fun l' q pm up hl'=>?_⟩
     subst ee0
     have lt:∀i∈q,i<xss.length:=fun i hi=>by
      grind
     have rp:=wj rs2 q (fun i hi=>by simp_all)
     have ee:(q.map fun i=>(xss.map vn).getD i .non)=(oP xss).map vn:=by
      rw[<- Ba pm up,ON]
      simp_all
     rw[ee] at rp
     exact NL.post (w.post ex) (r.grow hl) rp hl'
end
end L2.FE
namespace FC
open PySem L2 L2.FE
noncomputable def cE:MF:=bR 2 (ay (bP (av asB (ao dLt (af 1) (ah b_ (aa (af 0) ak)))) (aM (ao dIx (af 0) (af 1))) aQ)
  (aM (cC (.int 0))))
noncomputable def cV:MF:=bR 2 (ay (aX 1 (ah Di (aa (af 0) (aa (ao a9 (cC (.int 0)) (af 0)) ak))))
  (aM (ah (eX qu) (aa (af 1) (aa (ah A0 (aa (ao dGe (af 1) (ao Ht (cC (.int 10)) (cC (.int 18)))) ak)) (aa (ao qh (af 1) (cC (.int 1000003))) ak))))))
noncomputable def eZ:MF:=bR 1 (ay (aX 0 (ao qh (ao (cH aF) (af 0) (cC (.int 7919))) (cC (.int 2147483647))))
  (aM (ao qh (ao (cH aF) (ao (cH aF) (ao (mT aF) (af 0) (af 0)) (ao (mT aF) (cC (.int 48271)) (af 0))) (cC (.int 12345))) (cC (.int 2147483629)))))
noncomputable def aL:MF:=bR 3 (ay (bP (mH (av asB (ao dEq (ao dIx (af 0) (cC (.int 1))) (cC (.int 1)))) (av asB (ao dGt (ao dIx (af 0) (cC (.int 0))) (cC (.int 0))))) (ay (aX 2 (ao qh (ao dIx (af 0) (cC (.int 0))) (af 1)))
  (ay (sj iQ (af 0) (cC (.int 0)) (ao Ao (ao dIx (af 0) (cC (.int 0))) (af 1)))
  (aM (af 2)))) aQ)
  (ay (sj iQ (af 0) (cC (.int 2)) (ah eZ (aa (ao (cH aF) (ah eZ (aa (ao dIx (af 0) (cC (.int 2))) ak)) (cC (.int 7))) ak)))
  (aM (ao qh (ao Ao (ao dIx (af 0) (cC (.int 2))) (cC (.int 64))) (af 1)))))
noncomputable def gh:MF:=bR 1 (aM (yG (cUn (sf "int") (af 0)) (AN (cUn (sf "bool") (af 0)))))
noncomputable def bQ:MF:=bR 3 (aM (yG (ah gh (aa (af 0) ak)) (iJ dLe dLe (af 1) (af 0) (af 2))))
noncomputable def aB:MF:=bR 3 (bP (fR (av gS (ah bQ (aa (af 0) (aa (af 1) (aa (af 2) ak)))))) C0 aQ)
noncomputable def b8:MF:=bR 2 (ay (dA (ah aB (aa (af 0) (aa (cC (.int 1)) (aa (cC (.int 12)) ak)))))
  (dA (ah aB (aa (af 1) (aa (cC (.int 0)) (aa (cC (.int 12)) ak))))))
noncomputable def cj:MF:=bR 3 (ay (dA (ah b8 (aa (af 0) (aa (af 1) ak))))
  (dA (ah aB (aa (af 2) (aa (cC (.int 0)) (aa (ao a9 (af 0) (cC (.int 1))) ak))))))
noncomputable def bY:MF:=bR 1 (ay (bP (av asB (ao dEq (ah b_ (aa (af 0) ak)) (cC (.int 0)))) (aM (cC (.int 0))) aQ)
  (aM (ao a9 (ao dIx (af 0) (cUn h8 (cC (.int 1)))) (ah b_ (aa (bT aF (cw (af 0)) [0] (av asB (ao dLt (af 0) (ao dIx (af 1) (cUn h8 (cC (.int 1)))))) (af 0)) ak)))))
noncomputable def bU:MF:=bR 1 (aM (ah oQ (aa (bT aF (dn eD (aa (ao a9 (ah b_ (aa (af 0) ak)) (cC (.int 1))) ak)) [0] (av asB (ao dGt (ao dIx (af 1) (af 0)) (ao dIx (af 1) (ao (cH aF) (af 0) (cC (.int 1)))))) (af 0)) ak)))
noncomputable def bX:MF:=bR 5 (ay (aX 3 (ao dIx (ao dIx (af 0) (ao a9 (ao a9 (ah b_ (aa (af 0) ak)) (cC (.int 1))) (ah b_ (aa (af 2) ak)))) (ah bY (aa (af 2) ak))))
  (ay (aX 4 (ao a9 (af 1) (ah b_ (aa (ah bU (aa (af 2) ak)) ak))))
  (aM (cIf (av asB (iJ dLe dLt (cC (.int 0)) (af 4) (ah b_ (aa (af 3) ak)))) (ao dIx (af 3) (af 4)) (cC (.int 0))))))
noncomputable def cT:MF:=fun ds h=>((bR 8 (ay (aX 2 (ao (mT qu) (ah (eX aF) (aa (cC (.int 0)) ak)) (ao (cH aF) (ah b_ (aa (af 0) ak)) (cC (.int 1)))))
  (ay (eN (mx (af 0)) (gT2 3 4) (ay (aX 5 (cIf (av asB (ao dLt (af 3) (af 1))) (cC (.int 1)) (cC (.int 0))))
  (eN (mx (af 4)) (gT2 6 7) (tF (af 2) (ao (cH aF) (af 6) (af 5)) (af 7)))))
  (aM (af 2))))) ds h).bind (eC h)
noncomputable def cD:MF:=fun ds h=>((bR 3 (ay (aX 1 (ah (eX qu) (aa (ah (eX aF) (aa (ah (eX aF) (aa (cC (.int 1)) ak)) ak)) ak)))
  (ay (eN (dn qt (aa (cC (.int 1)) (aa (ao (cH aF) (af 0) (cC (.int 1))) ak))) (gN 2) (dA (lI fM (af 1) (aa (bT aF (dn eD (aa (ao (cH aF) (af 2) (cC (.int 1))) ak)) [1] tt1 (ah cT (aa (ao dIx (af 1) (cUn h8 (cC (.int 1)))) (aa (af 0) ak)))) ak))))
  (aM (af 1))))) ds h).bind (eC h)
noncomputable def aK:MF:=bR 3 (ay (dA (ah cj (aa (af 0) (aa (af 1) (aa (af 2) ak)))))
  (aM (ah bX (aa (ah cD (aa (af 0) ak)) (aa (af 1) (aa (ah gG (aa (af 2) ak)) ak))))))
noncomputable def bS:MF:=bR 2 (ay (dA (ah aB (aa (af 0) (aa (cC (.int 1)) (aa (cC (.int 30)) ak)))))
  (dA (ah aB (aa (af 1) (aa (cC (.int 0)) (aa (cC (.int 30)) ak))))))
noncomputable def ed:MF:=bR 3 (ay (aX 1 (ao (cH aF) (ah b_ (aa (af 0) ak)) (cC (.int 1))))
  (ay (aX 2 (ao (cH aF) (ao (cH aF) (ah (eX aF) (aa (cC (.int 0)) ak)) (af 0)) (ah (eX aF) (aa (cC (.int 0)) ak))))
  (aM (bT aF (dn eD (aa (af 1) ak)) [2,1] tt1 (ao (cH aF) (ao (mT aF) (ao (cH aF) (af 0) (cC (.int 1))) (ao dIx (af 1) (ao (cH aF) (af 0) (cC (.int 1))))) (ao (mT aF) (ao a9 (af 2) (af 0)) (ao dIx (af 1) (af 0))))))))
noncomputable def jh:MF:=bR 2 (ay (dA (ah aB (aa (af 0) (aa (cC (.int 1)) (aa (cC (.int 30)) ak)))))
  (ay (aX 1 (ah (eX aF) (aa (cC (.int 1)) ak)))
  (ay (xk 64 (av asB (ao dLt (ah b_ (aa (af 1) ak)) (af 0))) (aX 1 (ah ed (aa (af 1) ak))))
  (aM (af 1)))))
noncomputable def cU:MF:=bR 2 (ay (dA (ah bS (aa (af 0) (aa (af 1) ak))))
  (aM (ah fI (aa (cY aF (ah jh (aa (af 0) ak)) (dY (af 1)) (dY (ao (cH aF) (af 1) (cC (.int 1))))) ak))))
noncomputable def bJ:MF:=bR 3 (ay (dA (ah cj (aa (af 0) (aa (af 1) (aa (af 2) ak)))))
  (aM (ah bX (aa (ah cD (aa (af 0) ak)) (aa (ao a9 (ao a9 (af 0) (cC (.int 1))) (af 1)) (aa (ah gG (aa (af 2) ak)) ak))))))
noncomputable def br:MF:=bR 7 (ay (bP (av asB (ao dEq (af 1) (cC (.int 1)))) (aM (cIf (av asB (ao dEq (af 2) (cC (.int 0)))) (cC (.int 1)) (cC (.int 0)))) aQ)
  (ay (bP (av asB (ao dEq (af 3) (af 4))) (aM (cC (.int 0))) aQ)
  (ay (aX 5 (cIf (av asB (ao dLt (af 3) (af 4))) (af 2) (ao a9 (af 2) (cC (.int 1)))))
  (ay (aX 6 (ao dIx (ao dIx (af 0) (ao a9 (af 1) (cC (.int 2)))) (ao qh (ao a9 (ao a9 (af 3) (af 4)) (cC (.int 1))) (af 1))))
  (aM (cIf (av asB (iJ dLe dLt (cC (.int 0)) (af 5) (ah b_ (aa (af 6) ak)))) (ao dIx (af 6) (af 5)) (cC (.int 0))))))))
noncomputable def a_:MF:=bR 4 (ay (dA (ah cj (aa (af 0) (aa (af 1) (aa (af 2) ak)))))
  (ay (dA (ah aB (aa (af 3) (aa (cC (.int 0)) (aa (ao a9 (af 0) (cC (.int 1))) ak)))))
  (aM (ah br (aa (ah cD (aa (af 0) ak)) (aa (af 0) (aa (af 1) (aa (af 2) (aa (af 3) ak)))))))))
noncomputable def ba:MF:=bR 3 (ay (bP (av asB (ao dEq (ah b_ (aa (af 2) ak)) (cC (.int 0)))) (aM (ah fI (aa (ao dIx (af 0) (cUn h8 (cC (.int 1)))) ak))) aQ)
  (ay (bP (av asB (ao dNe (ah bU (aa (af 2) ak)) (ah oQ (aa (bT aF (cw (af 1)) [2] (av asB (ao dLt (af 0) (ao a9 (ah b_ (aa (af 1) ak)) (cC (.int 1))))) (af 0)) ak)))) (aM (cC (.int 0))) aQ)
  (aM (ao dIx (ao dIx (af 0) (ao a9 (ah b_ (aa (af 0) ak)) (ah b_ (aa (af 2) ak)))) (ah bY (aa (af 2) ak))))))
noncomputable def dq:MF:=bR 2 (aM (ao a9 (af 1) (ah b_ (aa (bT aF (cw (af 0)) [1] (av asB (ao dLt (af 0) (af 1))) (af 0)) ak))))
noncomputable def bG:MF:=bR 8 (ay (aX 5 (cY aF (af 4) cR (dY (cUn h8 (cC (.int 1))))))
  (ay (bP (lC (av asB (ao dNe (ao dIx (af 4) (cC (.int 0))) (af 2))) (av asB (ao (dIn false) (af 3) (af 5)))) (aM (cC (.int 0))) aQ)
  (ay (aX 6 (ao a9 (ah b_ (aa (af 0) ak)) (ah b_ (aa (af 4) ak))))
  (ay (aX 7 (ao a9 (af 1) (ah b_ (aa (ah bU (aa (af 4) ak)) ak))))
  (aM (ah br (aa (af 0) (aa (af 6) (aa (af 7) (aa (ah dq (aa (af 5) (aa (ao dIx (af 4) (cUn h8 (cC (.int 1)))) ak))) (aa (ah dq (aa (af 5) (aa (af 3) ak))) ak)))))))))))
noncomputable def jM:Str->Option (Nat × MF):=fun x=>if x="just_count" then some (3,ba) else if x="ends_begun" then some (5,bG) else none
@[simp] theorem mQ:jM "just_count" = some (3,ba):=by kernel_rfl
@[simp] theorem ni:jM "ends_begun" = some (5,bG):=by kernel_rfl
noncomputable def bp:MF:=bR 4 (ay (aX 3 (bT aF (dn eD (aa (af 0) ak)) [1] (av asB (ao (dIn true) (af 0) (af 1))) (ao (cH aF) (af 1) (ah gG (aa (af 0) ak)))))
  (aM (bT aF (cw (af 3)) [2] (av asB (ao dGt (iE jM (af 1) (aa (af 0) ak)) (cC (.int 0)))) (af 0))))
noncomputable def dm:MF:=fun ds h=>((bR 4 (ay (aX 2 (ah (eX aF) (aa (ah gG ak) ak)))
  (ay (eN (dn eD (aa (af 0) ak)) (gN 3) (aX 2 (iG (cw (af 2)) [0,1] (cw (ah bp (aa (af 2) (aa (af 0) (aa (af 3) ak))))) (af 1))))
  (aM (af 2))))) ds h).bind (eC h)
noncomputable def eQ:MF:=bR 1 (bP (av asB (ao dGt (af 0) (cC (.int 300)))) C0 aQ)
noncomputable def d8:MF:=GX 5 (ay (dA (ah eQ (aa (ah a_ (aa (af 0) (aa (af 1) (aa (af 2) (aa (af 3) ak))))) ak)))
  (aX 4 (ah cD (aa (af 0) ak)))) "ends_begun" [4,1,2,3] 0 dm
noncomputable def e_:MF:=fun ds h=>((bR 2 (ay (bP (lC (fR (av gS (cUn (sf "tuple") (af 0)))) (fR (av asB (iJ dLe dLe (cC (.int 1)) (ah b_ (aa (af 0) ak)) (cC (.int 20)))))) (aM (cC (.bl false))) aQ)
  (ay (eN (cw (af 0)) (gN 1) (bP (fR (av gS (ah bQ (aa (af 1) (aa (cC (.int 0)) (aa (ao a9 (ah b_ (aa (af 0) ak)) (cC (.int 1))) ak)))))) (aM (cC (.bl false))) aQ))
  (aM (ao dEq (ah b_ (aa (ah A_ (aa (af 0) ak)) ak)) (ah b_ (aa (af 0) ak))))))) ds h).bind (eC h)
noncomputable def dH:MF:=bR 1 (bP (fR (av gS (ah e_ (aa (af 0) ak)))) C0 aQ)
noncomputable def b9:MF:=bR 1 (ay (dA (ah dH (aa (af 0) ak)))
  (aM (ah bU (aa (af 0) ak))))
noncomputable def b7:MF:=bR 1 (aM (ah b_ (aa (ah b9 (aa (af 0) ak)) ak)))
noncomputable def bN:MF:=bR 1 (aM (ah iB (aa (cC (.int 1)) (aa (ao a9 (af 0) (cC (.int 1))) (aa (cC (.int 2)) ak)))))
noncomputable def aC:MF:=bR 4 (ay (dA (ah aB (aa (af 0) (aa (cC (.int 1)) (aa (cC (.int 20)) ak)))))
  (ay (aX 1 (ah (eX aF) (aa (cC (.int 1)) ak)))
  (ay (eN (dn qt (aa (cC (.int 2)) (aa (ao (cH aF) (af 0) (cC (.int 1))) ak))) (gN 2) (ay (aX 3 (ao (dIn false) (ao a9 (af 2) (cC (.int 2))) (ah bN (aa (af 0) ak))))
  (aX 1 (bT aF (dn eD (aa (af 2) ak)) [3,1] tt1 (ah fI (aa (cIf (av gS (af 1)) (cY aF (af 2) (dY (af 0)) cR) (cY aF (af 2) cR (dY (af 0)))) ak))))))
  (aM (af 1)))))
noncomputable def cq:MF:=bR 1 (aM (ah fI (aa (ah aC (aa (af 0) ak)) ak)))
noncomputable def ic:MF:=bR 4 (ay (dA (ah aB (aa (af 0) (aa (cC (.int 1)) (aa (cC (.int 12)) ak)))))
  (ay (bP (fR (av gS (cUn (sf "tuple") (af 1)))) (aM (cC (.bl false))) aQ)
  (ay (aX 2 (cC (.int 0)))
  (ay (eN (cw (af 1)) (gN 3) (ay (bP (fR (av gS (ah bQ (aa (af 3) (aa (af 2) (aa (ao a9 (af 0) (cC (.int 2))) ak)))))) (aM (cC (.bl false))) aQ)
  (aX 2 (ao (cH aF) (af 3) (cC (.int 1))))))
  (aM (cC (.bl true)))))))
noncomputable def fc:MF:=bR 2 (bP (fR (av gS (ah ic (aa (af 0) (aa (af 1) ak))))) C0 aQ)
noncomputable def dG:MF:=AI (fun ds h=>((bR 6 (ay (aX 2 (ah (eX qu) (aa (ah (eX aF) (aa (cC (.int 1)) ak)) ak)))
  (ay (eN (dn qt (aa (cC (.int 1)) (aa (af 0) ak))) (gN 3) (ay (aX 4 (ao dIx (af 2) (cUn h8 (cC (.int 1)))))
  (ay (aX 5 (ao (dIn false) (ao a9 (ao a9 (af 0) (cC (.int 1))) (af 3)) (af 1)))
  (dA (lI fM (af 2) (aa (bT aF (dn eD (aa (ao (cH aF) (af 3) (cC (.int 1))) ak)) [5,4] tt1 (ah fI (aa (cIf (av gS (af 1)) (cY aF (af 2) cR (dY (af 0))) (cY aF (af 2) (dY (af 0)) cR)) ak))) ak))))))
  (aM (af 2))))) ds h).bind (eC h))
noncomputable def eY:MF:=bR 2 (ay (dA (ah fc (aa (af 0) (aa (af 1) ak))))
  (aM (ah ba (aa (ah dG (aa (af 0) (aa (af 1) ak))) (aa (af 1) (aa (ah gG ak) ak))))))
noncomputable def c_:MF:=bR 7 (ay (aX 3 (ah gG ak))
  (ay (eN (dn eD (aa (af 0) ak)) (gN 4) (eN (cw (ah bp (aa (af 0) (aa (af 3) (aa (af 2) ak))))) (gN 5) (ay (aX 6 (iE jM (af 2) (aa (af 5) ak)))
  (ay (bP (av asB (ao dLt (af 1) (af 6))) (ay (aX 3 (af 5))
  Dy) aQ)
  (zU 1 a9 (af 6))))))
  (aM (af 3))))
noncomputable def bK:MF:=ES 3 (aX 2 (ah dG (aa (af 0) (aa (af 1) ak)))) "just_count" [2,1]
noncomputable def dN:MF:=bR 2 (ay (dA (ah aB (aa (af 1) (aa (cC (.int 0)) (aa (ao a9 (ah cq (aa (af 0) ak)) (cC (.int 1))) ak)))))
  (aM (ah c_ (aa (af 0) (aa (af 1) (aa (ah bK (aa (af 0) (aa (ah bN (aa (af 0) ak)) ak))) ak))))))
noncomputable def di:MF:=bR 1 (aM (ao dEq (ah b9 (aa (af 0) ak)) (ah bN (aa (ah b_ (aa (af 0) ak)) ak))))
noncomputable def d7:MF:=bR 5 (ay (aX 2 (cC (.int 0)))
  (ay (eN (dn eD (aa (ah b_ (aa (af 0) ak)) ak)) (gN 3) (eN (cw (ah bp (aa (ah b_ (aa (af 0) ak)) (aa (cY aF (af 0) cR (dY (af 3))) (aa (af 1) ak))))) (gN 4) (bP (av asB (ao dLt (ao dIx (af 4) (cUn h8 (cC (.int 1)))) (ao dIx (af 0) (af 3)))) (zU 2 qY (iE jM (af 1) (aa (af 4) ak))) aQ)))
  (aM (af 2))))
noncomputable def cM:MF:=bR 1 (ay (bP (fR (av gS (ah di (aa (af 0) ak)))) C0 aQ)
  (aM (ah d7 (aa (af 0) (aa (ah bK (aa (ah b_ (aa (af 0) ak)) (aa (ah bN (aa (ah b_ (aa (af 0) ak)) ak)) ak))) ak)))))
noncomputable def bo:MF:=bR 6 (ay (aX 1 (ao (cH aF) (cC (.int 1)) (ah aL (aa (af 0) (aa (cC (.int 20)) ak)))))
  (ay (aX 2 (ah cq (aa (af 1) ak)))
  (ay (bP (av asB (ao dNe (ah fI (aa (ah aC (aa (af 1) ak)) ak)) (af 2))) (aM (cC (.bl false))) aQ)
  (ay (bP (mH (av asB (ao dLt (af 1) (cC (.int 13)))) (av asB (ao dNe (ah eY (aa (af 1) (aa (ah iB (aa (cC (.int 1)) (aa (ao a9 (af 1) (cC (.int 1))) (aa (cC (.int 2)) ak)))) ak))) (af 2)))) (aM (cC (.bl false))) aQ)
  (ay (aX 3 (ah aL (aa (af 0) (aa (af 2) ak))))
  (ay (aX 4 (bT aF (cw (ah gG (aa (cC (.int 0)) (aa (af 3) (aa (ah yq (aa (ao (cH aF) (af 3) (cC (.int 1))) (aa (ao a9 (af 2) (cC (.int 1))) ak))) (aa (ao a9 (af 2) (cC (.int 1))) ak)))))) [1] tt1 (ah dN (aa (af 1) (aa (af 0) ak)))))
  (ay (bP (lC (av asB (ao dNe (af 4) (ah (lL aF) (aa (af 4) ak)))) (av asB (ao dNe (ah cM (aa (ao dIx (af 4) (cC (.int 1))) ak)) (af 3)))) (aM (cC (.bl false))) aQ)
  (ay (eN (cw (af 4)) (gN 5) (ay (bP (lC (av asB (ao (C2 true) (ah di (aa (af 5) ak)) (cC (.bl true)))) (av asB (ao dNe (ah b9 (aa (af 5) ak)) (ah iB (aa (cC (.int 1)) (aa (ao a9 (af 1) (cC (.int 1))) (aa (cC (.int 2)) ak))))))) (aM (cC (.bl false))) aQ)
  (bP (av asB (ao dNe (ah b7 (aa (af 5) ak)) (ao a9 (ao Ao (af 1) (cC (.int 2))) (ah A0 (aa (ao dEq (ao qh (af 1) (cC (.int 2))) (cC (.int 0))) ak))))) (aM (cC (.bl false))) aQ)))
  (aM (cC (.bl true)))))))))))
noncomputable def oM:MF:=fun ds h=>((bR 11 (ay (eN (cw (ao (cH aF) (ah (eX aF) (aa (ah cE (aa (af 0) (aa (cC (.int 0)) ak))) ak)) (cY aF (af 0) (dY (cC (.int 1))) (dY (cC (.int 2)))))) (gN 1) (ay (aX 2 (ah cV (aa (af 1) ak)))
  (ay (aX 3 (ao (cH aF) (cC (.int 1)) (ah aL (aa (af 2) (aa (cC (.int 8)) ak)))))
  (ay (BU 4 5 (ah gG (aa (ah aL (aa (af 2) (aa (af 3) ak))) (aa (ah aL (aa (af 2) (aa (af 3) ak))) ak))))
  (ay (bP (av asB (ao dNe (ah fI (aa (bT aF (dn eD (aa (af 3) ak)) [3,4] tt1 (ah aK (aa (af 1) (aa (af 2) (aa (af 0) ak))))) ak)) (ah cU (aa (af 3) (aa (af 4) ak))))) (aM (cC (.bl false))) aQ)
  (ay (bP (av asB (ao dNe (ah fI (aa (bT aF (dn eD (aa (af 3) ak)) [3,4] tt1 (ah bJ (aa (af 1) (aa (af 2) (aa (af 0) ak))))) ak)) (ah cU (aa (af 3) (aa (af 4) ak))))) (aM (cC (.bl false))) aQ)
  (ay (aX 6 (bT aF (dn eD (aa (af 3) ak)) [3,4,5] tt1 (ah a_ (aa (af 1) (aa (af 2) (aa (af 3) (aa (af 0) ak)))))))
  (ay (bP (lC (av asB (ao dNe (ah fI (aa (af 6) ak)) (ah aK (aa (af 3) (aa (af 4) (aa (af 5) ak)))))) (mH (av asB (ao dGt (af 3) (cC (.int 1)))) (av asB (ao dNe (ao dIx (af 6) (af 5)) (cC (.int 0)))))) (aM (cC (.bl false))) aQ)
  (ay (bP (av asB (ao dNe (bT aF (dn eD (aa (af 3) ak)) [3,4,5] tt1 (ah a_ (aa (af 1) (aa (ao a9 (ao a9 (af 1) (cC (.int 1))) (af 2)) (aa (af 0) (aa (af 3) ak)))))) (af 6))) (aM (cC (.bl false))) aQ)
  (ay (aX 7 (ah aK (aa (af 3) (aa (af 4) (aa (af 5) ak)))))
  (ay (bP (av asB (ao dNe (ah (eX aF) (aa (ah aK (aa (af 3) (aa (ao a9 (ao a9 (af 3) (cC (.int 1))) (af 4)) (aa (ao a9 (ao a9 (af 3) (cC (.int 1))) (af 5)) ak)))) (aa (ah bJ (aa (af 3) (aa (ao a9 (ao a9 (af 3) (cC (.int 1))) (af 4)) (aa (af 5) ak)))) ak))) (ah (eX aF) (aa (af 7) (aa (af 7) ak))))) (aM (cC (.bl false))) aQ)
  (ay (aX 8 (bT aF (dn eD (aa (af 3) ak)) [6] (av asB (ao dLt (ao dIx (af 1) (af 0)) (cC (.int 301)))) (af 0)))
  (ay (eN (cw (cY aF (af 8) cR (dY (cC (.int 3))))) (gN 9) (ay (aX 10 (ah d8 (aa (af 3) (aa (af 4) (aa (af 5) (aa (af 9) ak))))))
  (ay (bP (lC (av asB (ao dNe (ah b_ (aa (af 10) ak)) (ao dIx (af 6) (af 9)))) (av asB (ao dNe (af 10) (ah (lW aF) (aa (af 10) ak))))) (aM (cC (.bl false))) aQ)
  (bP (av asB (ao dNe (bT aF (cw (af 10)) [5,9,4] (av asB (ao dNe (ah gG (aa (ao dIx (af 0) (cC (.int 0))) (aa (ao dIx (af 0) (cUn h8 (cC (.int 1)))) (aa (ah b7 (aa (af 0) ak)) ak)))) (ah gG (aa (af 1) (aa (af 2) (aa (af 3) ak)))))) (af 0)) (ah (eX aF) ak))) (aM (cC (.bl false))) aQ))))
  (bP (fR (av gS (ah bo (aa (af 2) ak)))) (aM (cC (.bl false))) aQ))))))))))))))
  (aM (cC (.bl true))))) ds h).bind (eC h)
noncomputable def aw (i:Nat):Stmt:=N6.main.body.getD i (.Pass ⟨0,0,0,0⟩)
structure Blt (mg:Str->Option NB):Prop where
 bool:mg "bool" = none
 enumerate:mg "enumerate" = none
 int:mg "int" = none
 isinstance:mg "isinstance" = none
 len:mg "len" = none
 max:mg "max" = none
 min:mg "min" = none
 range:mg "range" = none
 set:mg "set" = none
 sorted:mg "sorted" = none
 sum:mg "sum" = none
 tuple:mg "tuple" = none
section
variable {P:NW}{w:Oo}{K:gV}{mg:Str->Option NB}{base:Heap}{g:GG}
local macro_rules | `($a :: $b) => `(@Eh _ _ _ _ _ _ _ $a $b rfl)
local macro_rules | `($a \/ $b) => `(@E8 _ _ _ _ _ _ _ $a $b)
local macro_rules | `(!$a) => `(@Ii _ _ _ _ _ $a)
local macro_rules | `(-$a) => `(@Jz _ _ _ _ _ _ $a)
local macro_rules | `($a ++ $b) => `(@lY _ _ _ _ _ _ _ _ _ _ _ Ir GR $a $b)
local macro_rules | `($a - $b) => `(@lY _ _ _ _ _ _ _ _ _ _ _ GY G1 $a $b)
local macro_rules | `($a * $b) => `(@lY _ _ _ _ _ _ _ _ _ _ _ G_ Gq $a $b)
local macro_rules | `($a / $b) => `(@lY _ _ _ _ _ _ _ _ _ _ _ AY Iu $a $b)
local macro_rules | `($a % $b) => `(@lY _ _ _ _ _ _ _ _ _ _ _ Gy HM $a $b)
local macro_rules | `($a < $b) => `(@bM _ _ _ _ _ _ _ _ _ _ _ Bo Bw $a $b (bD _))
local macro_rules | `($a > $b) => `(@bM _ _ _ _ _ _ _ _ _ _ _ Jh JD $a $b (bD _))
local macro_rules | `($a ^ $b) => `(@KA _ _ _ _ _ _ _ _ _ _ GB K3 $a $b (fun _ _ => rfl))
local macro_rules | `($a >>= $b) => `(@IS _ _ _ _ _ _ $a _ _ (by assumption) rfl (by first | exact Or.inl rfl | exact Or.inr rfl) $b rfl (.inl rfl))
local macro_rules | `(~~~$a) => `(@Hk _ _ _ _ _ _ _ $a)
local macro_rules | `(#[$a]) => `(@Ic _ _ _ _ _ _ _ _ $a)
local macro_rules | `(¬$a) => `(iN (i := $a) (by assumption) rfl (by first | exact Or.inl rfl | exact Or.inr rfl))
theorem ng:az ["_law_script", "_law_k"] ["_law_script", "_law_k"] (aj (aw 63)):=fsc ⟨rfl,rfl,rfl⟩ (by decide +kernel)
theorem lZ (D:aA K mg "_law_cell_at" (aw 63)) (T:Blt mg):Has P w K mg base g "_law_cell_at" 1 ["_law_script", "_law_k"] cE:=by
 refine dE D ng (bd2 fun _ _ _ _ _ _ _ _=>rfl) fun nd f cdv A outer s H E hr=>?_
 exact @eI _ _ _ _ _ _ _ _ _ _ (ae 1<aD bC bE rfl T.len NT (ae 0::ai)) (!-(ae 0 ^ ae 1)) aW\/!-aq
theorem oW:az ["_law_cell", "_law_left"] ["_law_cell"] (aj (aw 65)):=fsc ⟨rfl,rfl,rfl⟩ (by decide +kernel)
theorem m_ (D:aA K mg "_law_pen_of" (aw 65)) (T:Blt mg):Has P w K mg base g "_law_pen_of" 1 ["_law_cell"] cV:=by
 refine dE D oW (bd1 fun _ _ _ _ _ _ _=>rfl) fun nd f cdv A outer s H E hr=>?_
 exact 1 >>= aD (AB rfl) DE rfl T.max PyProof.Rows.boot_max (ae 0::(aq - ae 0)::ai)\/!-#[ae 1::g_ qW BK rfl T.int Rt (@lR _ _ _ _ _ _ _ _ _ _ _ Kt J5 (ae 1) (@lY _ _ _ _ _ _ _ _ _ _ _ DC GO aq aq) (bD _)::ai)::ae 1 % aq::ai]
theorem t4:az ["_law_seed"] ["_law_seed"] (aj (aw 64)):=fsc ⟨rfl,rfl,rfl⟩ (by decide +kernel)
theorem qg (D:aA K mg "_law_next" (aw 64)) (T:Blt mg):Has P w K mg base g "_law_next" 1 ["_law_seed"] eZ:=by
 refine dE D t4 (bd1 fun _ _ _ _ _ _ _=>rfl) fun nd f cdv A outer s H E hr=>?_
 exact 0 >>= (ae 0++aq) % aq\/!-((ae 0*ae 0++aq*ae 0++aq) % aq)
theorem sy:az ["_law_pen", "_law_many", "_law_found"] ["_law_pen", "_law_many"] (aj (aw 66)):=fsc ⟨rfl,rfl,rfl⟩ (by decide +kernel)
theorem qH (D:aA K mg "_law_draw" (aw 66)) (T:Blt mg) (fO:Has P w K mg base g "_law_next" 1 ["_law_seed"] eZ):Has P w K mg base g "_law_draw" 2 ["_law_pen", "_law_many"] aL:=by
 refine dE D sy (bd2 fun _ _ _ _ _ _ _ _=>rfl) fun nd f cdv A outer s H E hr=>?_
 exact @eI _ _ _ _ _ _ _ _ _ _ (PW.pt (@xS _ _ _ _ _ _ _ _ _ (@bM _ _ _ _ _ _ _ _ _ _ _ (iu hr.units) kY (ae 0 ^ aq) aq (bD _)) (@r9 _ _ _ _ _ _ (ae 0 ^ aq > aq)))) (2 >>= ae 0 ^ aq % ae 1\/yM (ae 0 ^ aq / ae 1) (ae 0) aq set_list o_\/!-ae 2) aW\/yM (aO fO hr ((aO fO hr (ae 0 ^ aq::ai) (ag ar)++aq)::ai) (ag ar)) (ae 0) aq set_list o_\/!-(ae 0 ^ aq / aq % ae 1)
theorem v_:az ["thing"] ["thing"] (aj (aw 8)):=fsc ⟨rfl,rfl,rfl⟩ (by decide +kernel)
theorem sH (D:aA K mg "is_whole" (aw 8)) (T:Blt mg):Has P w K mg base g "is_whole" 1 ["thing"] gh:=by
 refine dE D v_ (bd1 fun _ _ _ _ _ _ _=>rfl) fun nd f cdv A outer s H E hr=>?_
 exact !-@CH _ _ _ _ _ _ _ _ _ (ud (ae 0) rfl T.isinstance rfl T.int Rt) (@C_ _ _ _ _ _ _ _ (@Hu _ _ _ _ _ _ (ud (ae 0) rfl T.isinstance rfl T.bool PyProof.Rows.boot_bool)))
theorem rV:az ["thing", "least", "most"] ["thing", "least", "most"] (aj (aw 9)):=fsc ⟨rfl,rfl,rfl⟩ (by decide +kernel)
theorem qm (D:aA K mg "is_within" (aw 9)) (T:Blt mg) (iA:Has P w K mg base g "is_whole" 1 ["thing"] gh):Has P w K mg base g "is_within" 2 ["thing", "least", "most"] bQ:=by
 refine dE D rV (bd3 fun _ _ _ _ _ _ _ _ _=>rfl) fun nd f cdv A outer s H E hr=>?_
 exact !-@CH _ _ _ _ _ _ _ _ _ (aO iA hr (ae 0::ai) (ag ar)) (@C_ _ _ _ _ _ _ _ (Cb rO rO rh rh (ae 1) (ae 0) (ae 2)))
theorem lG:az ["thing", "least", "most"] ["thing", "least", "most"] (aj (aw 10)):=fsc ⟨rfl,rfl,rfl⟩ (by decide +kernel)
theorem kB (D:aA K mg "number_needed" (aw 10)) (T:Blt mg) (bV:Has P w K mg base g "is_within" 2 ["thing", "least", "most"] bQ):Has P w K mg base g "number_needed" 3 ["thing", "least", "most"] aB:=by
 refine dE D lG (bd3 fun _ _ _ _ _ _ _ _ _=>rfl) fun nd f cdv A outer s H E hr=>?_
 exact !@eI _ _ _ _ _ _ _ _ _ _ (@gL _ _ _ _ _ _ (@dZ _ _ _ _ _ _ gy (aO bV hr (ae 0::ae 1::ae 2::ai) (ag (ag (ag ar)))) (fun _=>rfl))) (!(PS.imp jC fun E σ H ⟨α,env,h,s,w⟩=>w.elim)) aW
theorem eJ:az ["n", "k"] ["n", "k"] (aj (aw 21)):=fsc ⟨rfl,rfl,rfl⟩ (by decide +kernel)
theorem gD (D:lE K mg "numbers_needed_listed" "numbers_needed" (aw 21)) (T:Blt mg){jY:Tok} (fL:mg "MOST_LISTED" = some (.int 12 jY)) (au:Has P w K mg base g "number_needed" 3 ["thing", "least", "most"] aB):Has P w K mg base g "numbers_needed_listed" 4 ["n", "k"] b8:=by
 obtain⟨f,fd,hm,F⟩:=D
 refine⟨f,fd,nX F eJ (fun cdv A outer s H E hr=>?_),F.kp,F.binds (fun _ _ _ _ _ _ us hl=>Af hl fun _ _=>rfl),hm,cW F⟩
 have nd:=eJ.nd
 exact dh (aO au hr (ae 0::aq::fv rfl fL::ai) (ag (ag (ag ar))))\/!dh (aO au hr (ae 1::aq::fv rfl fL::ai) (ag (ag (ag ar))))
theorem qF:az ["n", "k", "end"] ["n", "k", "end"] (aj (aw 45)):=fsc ⟨rfl,rfl,rfl⟩ (by decide +kernel)
theorem oZ (D:aA K mg "end_needed" (aw 45)) (T:Blt mg) (cJ:Has P w K mg base g "numbers_needed_listed" 4 ["n", "k"] b8) (au:Has P w K mg base g "number_needed" 3 ["thing", "least", "most"] aB):Has P w K mg base g "end_needed" 5 ["n", "k", "end"] cj:=by
 refine dE D qF (bd3 fun _ _ _ _ _ _ _ _ _=>rfl) fun nd f cdv A outer s H E hr=>?_
 exact dh (aO cJ hr (ae 0::ae 1::ai) (ag (ag ar)))\/!dh (aO au hr (ae 2::aq::(ae 0 - aq)::ai) (ag (ag (ag ar))))
theorem qJ:az ["begun"] ["begun"] (aj (aw 27)):=fsc ⟨rfl,rfl,rfl⟩ (by decide +kernel)
theorem o6 (D:aA K mg "lower_left" (aw 27)) (T:Blt mg):Has P w K mg base g "lower_left" 1 ["begun"] bY:=by
 refine dE D qJ (bd1 fun _ _ _ _ _ _ _=>rfl) fun nd f cdv A outer s H E hr=>?_
 exact @eI _ _ _ _ _ _ _ _ _ _ (@bM _ _ _ _ _ _ _ _ _ _ _ (iu hr.units) kY (aD bC bE rfl T.len NT (ae 0::ai)) aq (bD _)) (!-aq) aW\/!-(ae 0 ^ @kN _ _ _ _ _ _ _ _ _ iP ip aq - aD bC bE rfl T.len NT (cP (osc:=aj (aw 27)) [0] ["number", "begun"] rfl rfl rfl rfl (by decide +kernel) ⟨by decide +kernel,by decide +kernel,rfl,by decide +kernel,rfl,by decide +kernel⟩ (@eW _ _ _ _ _ _ (ae 0)) (fun cl C aE aG fp=>jx (ae 0<ae 1 ^ @kN _ _ _ _ _ _ _ _ _ iP ip aq)) (fun cl C aE aG fp=>ae 0)::ai))
theorem vV:az ["numbers"] ["numbers"] (aj (aw 15)):=fsc ⟨rfl,rfl,rfl⟩ (by decide +kernel)
theorem tY (D:aA K mg "falls_in" (aw 15)) (T:Blt mg):Has P w K mg base g "falls_in" 1 ["numbers"] bU:=by
 refine dE D vV (bd1 fun _ _ _ _ _ _ _=>rfl) fun nd f cdv A outer s H E hr=>?_
 exact !-g_ jV uO rfl T.tuple Px (cP (osc:=aj (aw 15)) [0] ["place", "numbers"] rfl rfl rfl rfl (by decide +kernel) ⟨by decide +kernel,by decide +kernel,rfl,by decide +kernel,rfl,by decide +kernel⟩ (dB rfl T.range ((aD bC bE rfl T.len NT (ae 0::ai) - aq)::ai)) (fun cl C aE aG fp=>jx (ae 1 ^ ae 0 > ae 1 ^ (ae 0++aq))) (fun cl C aE aG fp=>ae 0)::ai)
theorem oV:az ["rests", "k", "begun", "counts", "falls"] ["rests", "k", "begun"] (aj (aw 26)):=fsc ⟨rfl,rfl,rfl⟩ (by decide +kernel)
theorem mO (D:aA K mg "begun_count" (aw 26)) (T:Blt mg) (df:Has P w K mg base g "lower_left" 1 ["begun"] bY) (bw:Has P w K mg base g "falls_in" 1 ["numbers"] bU):Has P w K mg base g "begun_count" 2 ["rests", "k", "begun"] bX:=by
 refine dE D oV (bd3 fun _ _ _ _ _ _ _ _ _=>rfl) fun nd f cdv A outer s H E hr=>?_
 exact 3 >>= (ae 0 ^ (aD bC bE rfl T.len NT (ae 0::ai) - aq - aD bC bE rfl T.len NT (ae 2::ai))) ^ aO df hr (ae 2::ai) (ag ar)\/4 >>= ae 1 - aD bC bE rfl T.len NT (aO bw hr (ae 2::ai) (ag ar)::ai)\/!-@gu _ _ _ _ _ _ _ _ _ _ (oX rO Bo rh Bw aq (ae 4) (aD bC bE rfl T.len NT (ae 3::ai))) (ae 3 ^ ae 4) aq
theorem oH:az ["fewer", "lower", "counts", "rank", "rest", "fall", "falls", "many"] ["fewer", "lower"] (aj (aw 25)):=fsc ⟨rfl,rfl,rfl⟩ (by decide +kernel)
theorem mX (D:aA K mg "rest_counts" (aw 25)) (T:Blt mg):Has P w K mg base g "rest_counts" 1 ["fewer", "lower"] cT:=by
 refine Dw (dE D oH (bd2 fun _ _ _ _ _ _ _ _=>rfl) fun nd f cdv A outer s H E hr=>?_)
 exact 2 >>= #[aq::ai]*(aD bC bE rfl T.len NT (ae 0::ai)++aq)\/gw Ol rfl (xY rfl T.enumerate (ae 0)) (xJ rfl (g8 (¬3) (g8 (¬4) rX))) xx (5 >>= @gu _ _ _ _ _ _ _ _ _ _ (ae 3<ae 1) aq aq\/!gw Ol rfl (xY rfl T.enumerate (ae 4)) (xJ rfl (g8 (¬6) (g8 (¬7) rX))) xx (!E7 (ae 2) (ae 6++ae 5) (ae 7)))\/!-ae 2
theorem my:az ["n", "rests", "left"] ["n"] (aj (aw 24)):=fsc ⟨rfl,rfl,rfl⟩ (by decide +kernel)
theorem tU (D:aA K mg "rests_of" (aw 24)) (T:Blt mg) (fV:Has P w K mg base g "rest_counts" 1 ["fewer", "lower"] cT):Has P w K mg base g "rests_of" 2 ["n"] cD:=by
 obtain⟨f,fd,hm,F⟩:=D
 refine⟨f,fd,uu (nX F my (fun cdv A outer s H E hr=>?_)),F.kp,F.binds (fun _ _ _ _ _ _ us hl=>JZ hl fun _=>rfl),hm,cW F⟩
 have nd:=my.nd
 exact 1 >>= #[#[#[aq::ai]::ai]::ai]\/gw Ol rfl (sL rfl T.range (aq::(ae 0++aq)::ai)) (¬2) d9 (!dh (C7 PySem.F.slot_list_append PySem.F.type_list_append jI qQ (ae 1) (cP (osc:=aj (aw 24)) [1] ["lower", "rests"] rfl rfl rfl rfl (by decide +kernel) ⟨by decide +kernel,by decide +kernel,rfl,by decide +kernel,rfl,by decide +kernel⟩ (dB rfl T.range ((ae 2++aq)::ai)) (fun cl C aE aG fp=>iO) (fun cl C aE aG fp=>aO fV hr (ae 1 ^ @kN _ _ _ _ _ _ _ _ _ iP ip aq::ae 0::ai) (ag (ag ar)))::ai)))\/!-ae 1
theorem nR:az ["n", "k", "a"] ["n", "k", "a"] (aj (aw 41)):=fsc ⟨rfl,rfl,rfl⟩ (by decide +kernel)
theorem mZ (D:aA K mg "first_count" (aw 41)) (T:Blt mg) (bI:Has P w K mg base g "end_needed" 5 ["n", "k", "end"] cj) (cN:Has P w K mg base g "begun_count" 2 ["rests", "k", "begun"] bX) (bA:Has P w K mg base g "rests_of" 2 ["n"] cD):Has P w K mg base g "first_count" 6 ["n", "k", "a"] aK:=by
 refine dE D nR (bd3 fun _ _ _ _ _ _ _ _ _=>rfl) fun nd f cdv A outer s H E hr=>?_
 exact dh (aO bI hr (ae 0::ae 1::ae 2::ai) (ag (ag (ag ar))))\/!-aO cN hr (aO bA hr (ae 0::ai) (ag ar)::ae 1::~~~(ae 2::ai)::ai) (ag (ag (ag ar)))
theorem dP:az ["n", "k"] ["n", "k"] (aj (aw 60)):=fsc ⟨rfl,rfl,rfl⟩ (by decide +kernel)
theorem f9 (D:lE K mg "numbers_needed_triangle" "numbers_needed" (aw 60)) (T:Blt mg){gK:Tok} (d5:mg "MOST_ROWS" = some (.int 30 gK)) (au:Has P w K mg base g "number_needed" 3 ["thing", "least", "most"] aB):Has P w K mg base g "numbers_needed_triangle" 4 ["n", "k"] bS:=by
 obtain⟨f,fd,hm,F⟩:=D
 refine⟨f,fd,nX F dP (fun cdv A outer s H E hr=>?_),F.kp,F.binds (fun _ _ _ _ _ _ us hl=>Af hl fun _ _=>rfl),hm,cW F⟩
 have nd:=dP.nd
 exact dh (aO au hr (ae 0::aq::fv rfl d5::ai) (ag (ag (ag ar))))\/!dh (aO au hr (ae 1::aq::fv rfl d5::ai) (ag (ag (ag ar))))
theorem pV:az ["row", "n", "edged"] ["row"] (aj (aw 57)):=fsc ⟨rfl,rfl,rfl⟩ (by decide +kernel)
theorem oO (D:aA K mg "longer_row" (aw 57)) (T:Blt mg):Has P w K mg base g "longer_row" 1 ["row"] ed:=by
 refine dE D pV (bd1 fun _ _ _ _ _ _ _=>rfl) fun nd f cdv A outer s H E hr=>?_
 exact 1 >>= aD bC bE rfl T.len NT (ae 0::ai)++aq\/2 >>= #[aq::ai]++ae 0++#[aq::ai]\/!-cP (osc:=aj (aw 57)) [2,1] ["k", "edged", "n"] rfl rfl rfl rfl (by decide +kernel) ⟨by decide +kernel,by decide +kernel,rfl,by decide +kernel,rfl,by decide +kernel⟩ (dB rfl T.range (ae 1::ai)) (fun cl C aE aG fp=>iO) (fun cl C aE aG fp=>(ae 0++aq)*ae 1 ^ (ae 0++aq)++(ae 2 - ae 0)*ae 1 ^ ae 0)
theorem zO:az ["n", "row"] ["n"] (aj (aw 58)):=fsc ⟨rfl,rfl,rfl⟩ (by decide +kernel)
theorem wy (D:aA K mg "row_of" (aw 58)) (T:Blt mg){gK:Tok} (d5:mg "MOST_ROWS" = some (.int 30 gK)) (au:Has P w K mg base g "number_needed" 3 ["thing", "least", "most"] aB) (gq:Has P w K mg base g "longer_row" 1 ["row"] ed):Has P w K mg base g "row_of" 4 ["n"] jh:=by
 refine dE D zO (bd1 fun _ _ _ _ _ _ _=>rfl) fun nd f cdv A outer s H E hr=>?_
 exact dh (aO au hr (ae 0::aq::fv rfl d5::ai) (ag (ag (ag ar))))\/1 >>= #[aq::ai]\/@DR _ _ _ _ _ _ _ _ 64 Ol (aD bC bE rfl T.len NT (ae 1::ai)<ae 0) (!1 >>= aO gq hr (ae 1::ai) (ag ar))\/!-ae 1
theorem uv:az ["n", "k"] ["n", "k"] (aj (aw 59)):=fsc ⟨rfl,rfl,rfl⟩ (by decide +kernel)
theorem sV (D:aA K mg "count_of" (aw 59)) (T:Blt mg) (cg:Has P w K mg base g "numbers_needed_triangle" 4 ["n", "k"] bS) (j_:Has P w K mg base g "row_of" 4 ["n"] jh):Has P w K mg base g "count_of" 5 ["n", "k"] cU:=by
 refine dE D uv (bd2 fun _ _ _ _ _ _ _ _=>rfl) fun nd f cdv A outer s H E hr=>?_
 exact dh (aO cg hr (ae 0::ae 1::ai) (ag (ag ar)))\/!-aD (d_ rfl) iM rfl T.sum OD (fk (aO j_ hr (ae 0::ai) (ag ar)) (@fq _ _ _ _ _ (ae 1)) (@fq _ _ _ _ _ (ae 1++aq))::ai)
theorem qp:az ["n", "k", "a"] ["n", "k", "a"] (aj (aw 42)):=fsc ⟨rfl,rfl,rfl⟩ (by decide +kernel)
theorem oG (D:aA K mg "last_count" (aw 42)) (T:Blt mg) (bI:Has P w K mg base g "end_needed" 5 ["n", "k", "end"] cj) (cN:Has P w K mg base g "begun_count" 2 ["rests", "k", "begun"] bX) (bA:Has P w K mg base g "rests_of" 2 ["n"] cD):Has P w K mg base g "last_count" 6 ["n", "k", "a"] bJ:=by
 refine dE D qp (bd3 fun _ _ _ _ _ _ _ _ _=>rfl) fun nd f cdv A outer s H E hr=>?_
 exact dh (aO bI hr (ae 0::ae 1::ae 2::ai) (ag (ag (ag ar))))\/!-aO cN hr (aO bA hr (ae 0::ai) (ag ar)::(ae 0 - aq - ae 1)::~~~(ae 2::ai)::ai) (ag (ag (ag ar)))
theorem iR:az ["rests", "size", "k", "first", "last", "falls", "counts"] ["rests", "size", "k", "first", "last"] (aj (aw 46)):=fsc ⟨rfl,rfl,rfl⟩ (by decide +kernel)
theorem lV (D:aA K mg "ends_counted" (aw 46)) (T:Blt mg):Has P w K mg base g "ends_counted" 1 ["rests", "size", "k", "first", "last"] br:=by
 obtain⟨f,fd,hm,F⟩:=D
 refine⟨f,fd,nX F iR (fun cdv A outer s H E hr=>?_),F.kp,F.binds (fun _ _ _ _ _ _ us hl=>JB hl fun _ _ _ _ _=>rfl),hm,cW F⟩
 have nd:=iR.nd
 exact @eI _ _ _ _ _ _ _ _ _ _ (@bM _ _ _ _ _ _ _ _ _ _ _ (iu hr.units) kY (ae 1) aq (bD _)) (!-@gu _ _ _ _ _ _ _ _ _ _ (@bM _ _ _ _ _ _ _ _ _ _ _ (iu hr.units) kY (ae 2) aq (bD _)) aq aq) aW\/@eI _ _ _ _ _ _ _ _ _ _ (@bM _ _ _ _ _ _ _ _ _ _ _ (iu hr.units) kY (ae 3) (ae 4) (bD _)) (!-aq) aW\/5 >>= @gu _ _ _ _ _ _ _ _ _ _ (ae 3<ae 4) (ae 2) (ae 2 - aq)\/6 >>= (ae 0 ^ (ae 1 - aq)) ^ ((ae 3 - ae 4 - aq) % ae 1)\/!-@gu _ _ _ _ _ _ _ _ _ _ (oX rO Bo rh Bw aq (ae 5) (aD bC bE rfl T.len NT (ae 6::ai))) (ae 6 ^ ae 5) aq
theorem jT:az ["n", "k", "a", "b"] ["n", "k", "a", "b"] (aj (aw 43)):=fsc ⟨rfl,rfl,rfl⟩ (by decide +kernel)
theorem nL (D:aA K mg "ends_count" (aw 43)) (T:Blt mg) (bI:Has P w K mg base g "end_needed" 5 ["n", "k", "end"] cj) (au:Has P w K mg base g "number_needed" 3 ["thing", "least", "most"] aB) (cy:Has P w K mg base g "ends_counted" 1 ["rests", "size", "k", "first", "last"] br) (bA:Has P w K mg base g "rests_of" 2 ["n"] cD):Has P w K mg base g "ends_count" 6 ["n", "k", "a", "b"] a_:=by
 obtain⟨f,fd,hm,F⟩:=D
 refine⟨f,fd,nX F jT (fun cdv A outer s H E hr=>?_),F.kp,F.binds (fun _ _ _ _ _ _ us hl=>IJ hl fun _ _ _ _=>rfl),hm,cW F⟩
 have nd:=jT.nd
 exact dh (aO bI hr (ae 0::ae 1::ae 2::ai) (ag (ag (ag ar))))\/dh (aO au hr (ae 3::aq::(ae 0 - aq)::ai) (ag (ag (ag ar))))\/!-aO cy hr (aO bA hr (ae 0::ai) (ag ar)::ae 0::ae 1::ae 2::ae 3::ai) (ag (ag (ag (ag (ag ar)))))
theorem qk:az ["rests", "some", "begun"] ["rests", "some", "begun"] (aj (aw 38)):=fsc ⟨rfl,rfl,rfl⟩ (by decide +kernel)
theorem pB (D:aA K mg "just_count" (aw 38)) (T:Blt mg) (bw:Has P w K mg base g "falls_in" 1 ["numbers"] bU) (df:Has P w K mg base g "lower_left" 1 ["begun"] bY):Has P w K mg base g "just_count" 2 ["rests", "some", "begun"] ba:=by
 refine dE D qk (bd3 fun _ _ _ _ _ _ _ _ _=>rfl) fun nd f cdv A outer s H E hr=>?_
 exact @eI _ _ _ _ _ _ _ _ _ _ (@bM _ _ _ _ _ _ _ _ _ _ _ (iu hr.units) kY (aD bC bE rfl T.len NT (ae 2::ai)) aq (bD _)) (!-aD (d_ rfl) iM rfl T.sum OD (ae 0 ^ @kN _ _ _ _ _ _ _ _ _ iP ip aq::ai)) aW\/@eI _ _ _ _ _ _ _ _ _ _ (@bM _ _ _ _ _ _ _ _ _ _ _ (dz hr.units) fE (aO bw hr (ae 2::ai) (ag ar)) (g_ jV uO rfl T.tuple Px (cP (osc:=aj (aw 38)) [2] ["place", "begun"] rfl rfl rfl rfl (by decide +kernel) ⟨by decide +kernel,by decide +kernel,rfl,by decide +kernel,rfl,by decide +kernel⟩ (@eW _ _ _ _ _ _ (ae 1)) (fun cl C aE aG fp=>jx (ae 0<aD bC bE rfl T.len NT (ae 1::ai) - aq)) (fun cl C aE aG fp=>ae 0)::ai)) (bD _)) (!-aq) aW\/!-((ae 0 ^ (aD bC bE rfl T.len NT (ae 0::ai) - aD bC bE rfl T.len NT (ae 2::ai))) ^ aO df hr (ae 2::ai) (ag ar))
theorem pD:az ["stands", "number"] ["stands", "number"] (aj (aw 48)):=fsc ⟨rfl,rfl,rfl⟩ (by decide +kernel)
theorem mP (D:aA K mg "rank_beside" (aw 48)) (T:Blt mg):Has P w K mg base g "rank_beside" 1 ["stands", "number"] dq:=by
 refine dE D pD (bd2 fun _ _ _ _ _ _ _ _=>rfl) fun nd f cdv A outer s H E hr=>?_
 exact !-(ae 1 - aD bC bE rfl T.len NT (cP (osc:=aj (aw 48)) [1] ["one", "number"] rfl rfl rfl rfl (by decide +kernel) ⟨by decide +kernel,by decide +kernel,rfl,by decide +kernel,rfl,by decide +kernel⟩ (@eW _ _ _ _ _ _ (ae 0)) (fun cl C aE aG fp=>jx (ae 0<ae 1)) (fun cl C aE aG fp=>ae 0)::ai))
theorem j3:az ["rests", "k", "first", "last", "begun", "stands", "size", "falls"] ["rests", "k", "first", "last", "begun"] (aj (aw 47)):=fsc ⟨rfl,rfl,rfl⟩ (by decide +kernel)
theorem pf (D:aA K mg "ends_begun" (aw 47)) (T:Blt mg) (bw:Has P w K mg base g "falls_in" 1 ["numbers"] bU) (cy:Has P w K mg base g "ends_counted" 1 ["rests", "size", "k", "first", "last"] br) (eR:Has P w K mg base g "rank_beside" 1 ["stands", "number"] dq):Has P w K mg base g "ends_begun" 2 ["rests", "k", "first", "last", "begun"] bG:=by
 obtain⟨f,fd,hm,F⟩:=D
 refine⟨f,fd,nX F j3 (fun cdv A outer s H E hr=>?_),F.kp,F.binds (fun _ _ _ _ _ _ us hl=>JB hl fun _ _ _ _ _=>rfl),hm,cW F⟩
 have nd:=j3.nd
 exact 5 >>= fk (ae 4) iL (@fq _ _ _ _ _ (@kN _ _ _ _ _ _ _ _ _ iP ip aq))\/@eI _ _ _ _ _ _ _ _ _ _ (PW.pt (@rq _ _ _ _ _ _ _ _ _ (@bM _ _ _ _ _ _ _ _ _ _ _ (dz hr.units) fE (ae 4 ^ aq) (ae 2) (bD _)) (@lQ _ _ _ _ _ _ (@bM _ _ _ _ _ _ _ _ _ _ _ l9 yc (ae 3) (ae 5) (by rfl))))) (!-aq) aW\/6 >>= aD bC bE rfl T.len NT (ae 0::ai) - aD bC bE rfl T.len NT (ae 4::ai)\/7 >>= ae 1 - aD bC bE rfl T.len NT (aO bw hr (ae 4::ai) (ag ar)::ai)\/!-aO cy hr (ae 0::ae 6::ae 7::aO eR hr (ae 5::ae 4 ^ @kN _ _ _ _ _ _ _ _ _ iP ip aq::ai) (ag (ag ar))::aO eR hr (ae 5::ae 3::ai) (ag (ag ar))::ai) (ag (ag (ag (ag (ag ar)))))
theorem gC:az ["n", "begun", "many_with", "longer"] ["n", "begun", "many_with"] (aj (aw 28)):=fsc ⟨rfl,rfl,rfl⟩ (by decide +kernel)
theorem mV (D:aA K mg "longer_ones" (aw 28)) (T:Blt mg) (aZ:Has P w K mg base g "just_count" 2 ["rests", "some", "begun"] ba) (bL:Has P w K mg base g "ends_begun" 2 ["rests", "k", "first", "last", "begun"] bG):Has P w K mg base g "longer_ones" 4 ["n", "begun", "many_with"] bp:=by
 obtain⟨f,fd,hm,F⟩:=D
 obtain⟨ja,iX,dI,dU,dW,dJ,_⟩:=aZ
 obtain⟨jj,iV,dQ,d6,dR,dF,_⟩:=bL
 have TC:∀x np m,jM x=some (np,m)->∃f fd ps,mg x=some (.ref f)/\eK P w K mg base CX0 2 f fd ps (spM K g np m)/\OF K (.ref f)=true/\Binds K fd ps []:=by
  intro x np m e
  unfold jM at e
  by_cases bf:x="just_count"
  ·rw[if_pos bf] at e;cases e;rw[bf];exact⟨_,_,_,dJ,dI.mono (by decide),dU,dW⟩
  rw[if_neg bf] at e
  by_cases bj:x="ends_begun"
  ·rw[if_pos bj] at e;cases e;rw[bj];exact⟨_,_,_,dF,dQ.mono (by decide),d6,dR⟩
  rw[if_neg bj] at e
  cases e
 refine⟨f,fd,nX F gC (fun cdv A outer s H E hr=>?_),F.kp,F.binds (fun _ _ _ _ _ _ us hl=>HN hl fun _ _ _=>rfl),hm,cW F⟩
 have nd:=gC.nd
 exact kj (osc:=aj (aw 28)) [1] ["number", "begun"] rfl rfl rfl rfl (by decide +kernel) ⟨by decide +kernel,by decide +kernel,rfl,by decide +kernel,rfl,by decide +kernel⟩ (dB rfl T.range (ae 0::ai)) (fun cl C aE aG fp=>jx (@bM _ _ _ _ _ _ _ _ _ _ _ sC yc (ae 0) (ae 1) (by rfl))) (fun cl C aE aG fp=>ae 1++~~~(ae 0::ai)) (i:=3) gC.nd rfl\/!-cP (osc:=aj (aw 28)) [2] ["one", "many_with"] rfl rfl rfl rfl (by decide +kernel) ⟨by decide +kernel,by decide +kernel,rfl,by decide +kernel,rfl,by decide +kernel⟩ (@eW _ _ _ _ _ _ (ae 3)) (fun cl C aE aG fp=>jx (pN TC hr (ae 1) (ae 0::ai) (ag ar) > aq)) (fun cl C aE aG fp=>ae 0)
theorem gZ:az ["n", "many_with", "orders", "place"] ["n", "many_with"] (aj (aw 29)):=fsc ⟨rfl,rfl,rfl⟩ (by decide +kernel)
theorem lh (D:aA K mg "orders_listed" (aw 29)) (T:Blt mg) (bu:Has P w K mg base g "longer_ones" 4 ["n", "begun", "many_with"] bp):Has P w K mg base g "orders_listed" 5 ["n", "many_with"] dm:=by
 refine Dw (dE D gZ (bd2 fun _ _ _ _ _ _ _ _=>rfl) fun nd f cdv A outer s H E hr=>?_)
 exact 2 >>= #[~~~ai::ai]\/gw Ol rfl (dB rfl T.range (ae 0::ai)) (¬3) d9 (!wJ (osc:=aj (aw 29)) [0,1] ["begun", "longer", "n", "many_with"] rfl rfl rfl rfl (by decide +kernel) ⟨by decide +kernel,by decide +kernel,rfl,by decide +kernel,by decide +kernel⟩ (@eW _ _ _ _ _ _ (ae 2)) (fun cl C aE aG fp=>⟨SW rfl,rfl⟩) (fun cl C aE aG fp=>⟨SW rfl,rfl⟩) (fun cl C aE aG fp=>@eW _ _ _ _ _ _ (aO bu hr (ae 2::ae 0::ae 3::ai) (ag (ag (ag ar))))) (fun cl C aE aG fp=>ae 1) (i:=2) gZ.nd rfl)\/!-ae 2
theorem pQ:az ["many"] ["many"] (aj (aw 23)):=fsc ⟨rfl,rfl,rfl⟩ (by decide +kernel)
theorem nr (D:aA K mg "told_needed" (aw 23)) (T:Blt mg){mK:Tok} (jt:mg "MOST_TOLD" = some (.int 300 mK)):Has P w K mg base g "told_needed" 1 ["many"] eQ:=by
 refine dE D pQ (bd1 fun _ _ _ _ _ _ _=>rfl) fun nd f cdv A outer s H E hr=>?_
 exact !@eI _ _ _ _ _ _ _ _ _ _ (ae 0 > fv rfl jt) (!(PS.imp jC fun E σ H ⟨α,env,h,s,w⟩=>w.elim)) aW
theorem mz:az ["n", "k", "a", "b", "rests"] ["n", "k", "a", "b"] (aj (aw 44)):=fsc ⟨rfl,rfl,rfl⟩ (by decide +kernel)
theorem r_ (D:aA K mg "ends_all" (aw 44)) (T:Blt mg) (MK:zK K mg base "ends_all" (aw 44)) (fC:Has P w K mg base g "orders_listed" 5 ["n", "many_with"] dm) (fT:Has P w K mg base g "told_needed" 1 ["many"] eQ) (cF:Has P w K mg base g "ends_count" 6 ["n", "k", "a", "b"] a_) (bA:Has P w K mg base g "rests_of" 2 ["n"] cD):Has P w K mg base g "ends_all" 7 ["n", "k", "a", "b"] d8:=by
 obtain⟨f,fd,hm,F⟩:=D
 obtain⟨ze,xw,lq,lj,kM,kZ,_⟩:=fC
 obtain⟨c,PT,MK⟩:=MK f fd hm F
 refine⟨f,fd,G8 ((bW (aw 44)).take 2) "ends_begun" "begun" "orders_listed" "n" ["rests", "k", "a", "b"] [4,1,2,3] 0 F mz MK (lq.mono (by decide)) lj kM kZ rfl (fun _=>rfl) (by decide +kernel) (by decide +kernel) rfl ⟨⟨_,_,_,[("rests", _),("k", _),("a", _),("b", _)],rfl,rfl⟩,rfl,rfl,rfl,by decide +kernel,rfl,rfl,by decide +kernel,⟨by decide,by decide⟩,fun _ _ _ _ _=>rfl⟩ rfl (by decide) rfl (by first | exact SW rfl | exact Tt (SW rfl)) (by decide) (by decide) (fun cdv A outer s H E hr=>?_),F.kp,F.binds (fun _ _ _ _ _ _ us hl=>IJ hl fun _ _ _ _=>rfl),hm,cW F⟩
 have nd:=mz.nd
 exact dh (aO fT hr (aO cF hr (ae 0::ae 1::ae 2::ae 3::ai) (ag (ag (ag (ag ar))))::ai) (ag ar))\/!4 >>= aO bA hr (ae 0::ai) (ag ar)
theorem pU:az ["thing", "number"] ["thing"] (aj (aw 13)):=fsc ⟨rfl,rfl,rfl⟩ (by decide +kernel)
theorem oK (D:aA K mg "order_good" (aw 13)) (T:Blt mg){cG:Tok} (bq:mg "MOST_NUMBERS_orders" = some (.int 20 cG)) (bV:Has P w K mg base g "is_within" 2 ["thing", "least", "most"] bQ):Has P w K mg base g "order_good" 3 ["thing"] e_:=by
 refine Dw (dE D pU (bd1 fun _ _ _ _ _ _ _=>rfl) fun nd f cdv A outer s H E hr=>?_)
 exact @eI _ _ _ _ _ _ _ _ _ _ (PW.pt (@rq _ _ _ _ _ _ _ _ _ (@gL _ _ _ _ _ _ (@dZ _ _ _ _ _ _ gy (ud (ae 0) rfl T.isinstance rfl T.tuple Px) (fun _=>rfl))) (@lQ _ _ _ _ _ _ (@gL _ _ _ _ _ _ (oX rO rO rh rh aq (aD bC bE rfl T.len NT (ae 0::ai)) (fv rfl bq)))))) (!-eP) aW\/gw Ol rfl (@eW _ _ _ _ _ _ (ae 0)) (¬1) d9 (!@eI _ _ _ _ _ _ _ _ _ _ (@gL _ _ _ _ _ _ (@dZ _ _ _ _ _ _ gy (aO bV hr (ae 1::aq::(aD bC bE rfl T.len NT (ae 0::ai) - aq)::ai) (ag (ag (ag ar)))) (fun _=>rfl))) (!-eP) aW)\/!-@lR _ _ _ _ _ _ _ _ _ _ _ (iu hr.units) kY (aD bC bE rfl T.len NT (g_ (tP rfl) G6 rfl T.set PyProof.Rows.boot_set (ae 0::ai)::ai)) (aD bC bE rfl T.len NT (ae 0::ai)) (bD _)
theorem nh:az ["thing"] ["thing"] (aj (aw 14)):=fsc ⟨rfl,rfl,rfl⟩ (by decide +kernel)
theorem lD (D:aA K mg "order_needed" (aw 14)) (T:Blt mg) (gA:Has P w K mg base g "order_good" 3 ["thing"] e_):Has P w K mg base g "order_needed" 4 ["thing"] dH:=by
 refine dE D nh (bd1 fun _ _ _ _ _ _ _=>rfl) fun nd f cdv A outer s H E hr=>?_
 exact !@eI _ _ _ _ _ _ _ _ _ _ (@gL _ _ _ _ _ _ (@dZ _ _ _ _ _ _ gy (aO gA hr (ae 0::ai) (ag ar)) (fun _=>rfl))) (!(PS.imp jC fun E σ H ⟨α,env,h,s,w⟩=>w.elim)) aW
theorem vX:az ["order"] ["order"] (aj (aw 16)):=fsc ⟨rfl,rfl,rfl⟩ (by decide +kernel)
theorem uk (D:aA K mg "falls_of" (aw 16)) (T:Blt mg) (fJ:Has P w K mg base g "order_needed" 4 ["thing"] dH) (bw:Has P w K mg base g "falls_in" 1 ["numbers"] bU):Has P w K mg base g "falls_of" 5 ["order"] b9:=by
 refine dE D vX (bd1 fun _ _ _ _ _ _ _=>rfl) fun nd f cdv A outer s H E hr=>?_
 exact dh (aO fJ hr (ae 0::ai) (ag ar))\/!-aO bw hr (ae 0::ai) (ag ar)
theorem pZ:az ["order"] ["order"] (aj (aw 17)):=fsc ⟨rfl,rfl,rfl⟩ (by decide +kernel)
theorem nQ (D:aA K mg "falls_many" (aw 17)) (T:Blt mg) (cn:Has P w K mg base g "falls_of" 5 ["order"] b9):Has P w K mg base g "falls_many" 6 ["order"] b7:=by
 refine dE D pZ (bd1 fun _ _ _ _ _ _ _=>rfl) fun nd f cdv A outer s H E hr=>?_
 exact !-aD bC bE rfl T.len NT (aO cn hr (ae 0::ai) (ag ar)::ai)
theorem qf:az ["n"] ["n"] (aj (aw 50)):=fsc ⟨rfl,rfl,rfl⟩ (by decide +kernel)
theorem oq (D:aA K mg "odd_places" (aw 50)) (T:Blt mg):Has P w K mg base g "odd_places" 1 ["n"] bN:=by
 refine dE D qf (bd1 fun _ _ _ _ _ _ _=>rfl) fun nd f cdv A outer s H E hr=>?_
 exact !-nW rfl rfl T.tuple rfl T.range (aq::(ae 0 - aq)::aq::ai)
theorem pY:az ["n", "row", "size", "falls"] ["n"] (aj (aw 51)):=fsc ⟨rfl,rfl,rfl⟩ (by decide +kernel)
theorem pH (D:aA K mg "zigzag_row" (aw 51)) (T:Blt mg){cG:Tok} (bq:mg "MOST_NUMBERS_orders" = some (.int 20 cG)) (au:Has P w K mg base g "number_needed" 3 ["thing", "least", "most"] aB) (a8:Has P w K mg base g "odd_places" 1 ["n"] bN):Has P w K mg base g "zigzag_row" 4 ["n"] aC:=by
 refine dE D pY (bd1 fun _ _ _ _ _ _ _=>rfl) fun nd f cdv A outer s H E hr=>?_
 exact dh (aO au hr (ae 0::aq::fv rfl bq::ai) (ag (ag (ag ar))))\/1 >>= #[aq::ai]\/gw Ol rfl (sL rfl T.range (aq::(ae 0++aq)::ai)) (¬2) d9 (3 >>= @lR _ _ _ _ _ _ _ _ _ _ _ l9 yc (ae 2 - aq) (aO a8 hr (ae 0::ai) (ag ar)) (by rfl)\/!1 >>= cP (osc:=aj (aw 51)) [3,1] ["last", "falls", "row"] rfl rfl rfl rfl (by decide +kernel) ⟨by decide +kernel,by decide +kernel,rfl,by decide +kernel,rfl,by decide +kernel⟩ (dB rfl T.range (ae 2::ai)) (fun cl C aE aG fp=>iO) (fun cl C aE aG fp=>aD (d_ rfl) iM rfl T.sum OD (@gu _ _ _ _ _ _ _ _ _ _ (@dZ _ _ _ _ _ _ gy (ae 1) (fun _=>rfl)) (fk (ae 2) (@fq _ _ _ _ _ (ae 0)) iL) (fk (ae 2) iL (@fq _ _ _ _ _ (ae 0)))::ai)))\/!-ae 1
theorem n8:az ["n"] ["n"] (aj (aw 52)):=fsc ⟨rfl,rfl,rfl⟩ (by decide +kernel)
theorem m8 (D:aA K mg "zigzag_many" (aw 52)) (T:Blt mg) (c7:Has P w K mg base g "zigzag_row" 4 ["n"] aC):Has P w K mg base g "zigzag_many" 5 ["n"] cq:=by
 refine dE D n8 (bd1 fun _ _ _ _ _ _ _=>rfl) fun nd f cdv A outer s H E hr=>?_
 exact !-aD (d_ rfl) iM rfl T.sum OD (aO c7 hr (ae 0::ai) (ag ar)::ai)
theorem uG:az ["n", "thing", "least", "place"] ["n", "thing"] (aj (aw 34)):=fsc ⟨rfl,rfl,rfl⟩ (by decide +kernel)
theorem rY (D:aA K mg "set_good" (aw 34)) (T:Blt mg){fY:Tok} (eG:mg "MOST_NUMBERS_sets" = some (.int 12 fY)) (au:Has P w K mg base g "number_needed" 3 ["thing", "least", "most"] aB) (bV:Has P w K mg base g "is_within" 2 ["thing", "least", "most"] bQ):Has P w K mg base g "set_good" 4 ["n", "thing"] ic:=by
 refine dE D uG (bd2 fun _ _ _ _ _ _ _ _=>rfl) fun nd f cdv A outer s H E hr=>?_
 exact dh (aO au hr (ae 0::aq::fv rfl eG::ai) (ag (ag (ag ar))))\/@eI _ _ _ _ _ _ _ _ _ _ (@gL _ _ _ _ _ _ (@dZ _ _ _ _ _ _ gy (ud (ae 1) rfl T.isinstance rfl T.tuple Px) (fun _=>rfl))) (!-eP) aW\/2 >>= aq\/gw Ol rfl (@eW _ _ _ _ _ _ (ae 1)) (¬3) d9 (@eI _ _ _ _ _ _ _ _ _ _ (@gL _ _ _ _ _ _ (@dZ _ _ _ _ _ _ gy (aO bV hr (ae 3::ae 2::(ae 0 - aq)::ai) (ag (ag (ag ar)))) (fun _=>rfl))) (!-eP) aW\/!2 >>= ae 3++aq)\/!-eP
theorem qv:az ["n", "thing"] ["n", "thing"] (aj (aw 35)):=fsc ⟨rfl,rfl,rfl⟩ (by decide +kernel)
theorem o7 (D:aA K mg "set_needed" (aw 35)) (T:Blt mg) (iD:Has P w K mg base g "set_good" 4 ["n", "thing"] ic):Has P w K mg base g "set_needed" 5 ["n", "thing"] fc:=by
 refine dE D qv (bd2 fun _ _ _ _ _ _ _ _=>rfl) fun nd f cdv A outer s H E hr=>?_
 exact !@eI _ _ _ _ _ _ _ _ _ _ (@gL _ _ _ _ _ _ (@dZ _ _ _ _ _ _ gy (aO iD hr (ae 0::ae 1::ai) (ag (ag ar))) (fun _=>rfl))) (!(PS.imp jC fun E σ H ⟨α,env,h,s,w⟩=>w.elim)) aW
theorem kC:az ["n", "some", "rests", "left", "fewer", "falls"] ["n", "some"] (aj (aw 37)):=fsc ⟨rfl,rfl,rfl⟩ (by decide +kernel)
theorem p_ (D:aA K mg "set_rests" (aw 37)) (T:Blt mg):Has P w K mg base g "set_rests" 1 ["n", "some"] dG:=by
 obtain⟨f,fd,hm,F⟩:=D
 refine⟨f,fd,HK (uu (nX F kC (fun cdv A outer s H E hr=>?_))),F.kp,F.binds (fun _ _ _ _ _ _ us hl=>Af hl fun _ _=>rfl),hm,cW F⟩
 have nd:=kC.nd
 exact 2 >>= #[#[aq::ai]::ai]\/gw Ol rfl (sL rfl T.range (aq::ae 0::ai)) (¬3) d9 (4 >>= ae 2 ^ @kN _ _ _ _ _ _ _ _ _ iP ip aq\/5 >>= @lR _ _ _ _ _ _ _ _ _ _ _ l9 yc (ae 0 - aq - ae 3) (ae 1) (by rfl)\/!dh (C7 PySem.F.slot_list_append PySem.F.type_list_append jI qQ (ae 2) (cP (osc:=aj (aw 37)) [5,4] ["lower", "falls", "fewer"] rfl rfl rfl rfl (by decide +kernel) ⟨by decide +kernel,by decide +kernel,rfl,by decide +kernel,rfl,by decide +kernel⟩ (dB rfl T.range ((ae 3++aq)::ai)) (fun cl C aE aG fp=>iO) (fun cl C aE aG fp=>aD (d_ rfl) iM rfl T.sum OD (@gu _ _ _ _ _ _ _ _ _ _ (@dZ _ _ _ _ _ _ gy (ae 1) (fun _=>rfl)) (fk (ae 2) iL (@fq _ _ _ _ _ (ae 0))) (fk (ae 2) (@fq _ _ _ _ _ (ae 0)) iL)::ai))::ai)))\/!-ae 2
theorem sR:az ["n", "some"] ["n", "some"] (aj (aw 36)):=fsc ⟨rfl,rfl,rfl⟩ (by decide +kernel)
theorem qr (D:aA K mg "just_many" (aw 36)) (T:Blt mg) (gk:Has P w K mg base g "set_needed" 5 ["n", "thing"] fc) (aZ:Has P w K mg base g "just_count" 2 ["rests", "some", "begun"] ba) (dv:Has P w K mg base g "set_rests" 1 ["n", "some"] dG):Has P w K mg base g "just_many" 6 ["n", "some"] eY:=by
 refine dE D sR (bd2 fun _ _ _ _ _ _ _ _=>rfl) fun nd f cdv A outer s H E hr=>?_
 exact dh (aO gk hr (ae 0::ae 1::ai) (ag (ag ar)))\/!-aO aZ hr (aO dv hr (ae 0::ae 1::ai) (ag (ag ar))::ae 1::~~~ai::ai) (ag (ag (ag ar)))
theorem fm:az ["n", "number", "many_with", "begun", "place", "longer", "many"] ["n", "number", "many_with"] (aj (aw 30)):=fsc ⟨rfl,rfl,rfl⟩ (by decide +kernel)
theorem kl (D:aA K mg "order_numbered" (aw 30)) (T:Blt mg) (bu:Has P w K mg base g "longer_ones" 4 ["n", "begun", "many_with"] bp) (aZ:Has P w K mg base g "just_count" 2 ["rests", "some", "begun"] ba) (bL:Has P w K mg base g "ends_begun" 2 ["rests", "k", "first", "last", "begun"] bG):Has P w K mg base g "order_numbered" 5 ["n", "number", "many_with"] c_:=by
 obtain⟨f,fd,hm,F⟩:=D
 obtain⟨ja,iX,dI,dU,dW,dJ,_⟩:=aZ
 obtain⟨jj,iV,dQ,d6,dR,dF,_⟩:=bL
 have TC:∀x np m,jM x=some (np,m)->∃f fd ps,mg x=some (.ref f)/\eK P w K mg base CX0 3 f fd ps (spM K g np m)/\OF K (.ref f)=true/\Binds K fd ps []:=by
  intro x np m e
  unfold jM at e
  by_cases bf:x="just_count"
  ·rw[if_pos bf] at e;cases e;rw[bf];exact⟨_,_,_,dJ,dI.mono (by decide),dU,dW⟩
  rw[if_neg bf] at e
  by_cases bj:x="ends_begun"
  ·rw[if_pos bj] at e;cases e;rw[bj];exact⟨_,_,_,dF,dQ.mono (by decide),d6,dR⟩
  rw[if_neg bj] at e
  cases e
 refine⟨f,fd,nX F fm (fun cdv A outer s H E hr=>?_),F.kp,F.binds (fun _ _ _ _ _ _ us hl=>HN hl fun _ _ _=>rfl),hm,cW F⟩
 have nd:=fm.nd
 exact 3 >>= ~~~ai\/gw Ol rfl (dB rfl T.range (ae 0::ai)) (¬4) d9 (!gw Ol rfl (@eW _ _ _ _ _ _ (aO bu hr (ae 0::ae 3::ae 2::ai) (ag (ag (ag ar))))) (¬5) d9 (6 >>= pN TC hr (ae 2) (ae 5::ai) (ag ar)\/@eI _ _ _ _ _ _ _ _ _ _ (ae 1<ae 6) (3 >>= ae 5\/!KN) aW\/!F0 (i:=1) fm.nd rfl (by first | exact SW rfl | exact Tt rfl) (ae 6) GW Hb))\/!-ae 3
theorem iS:az ["n", "some", "rests"] ["n", "some"] (aj (aw 39)):=fsc ⟨rfl,rfl,rfl⟩ (by decide +kernel)
theorem lH (D:aA K mg "just_counter" (aw 39)) (T:Blt mg) (MK:zK K mg base "just_counter" (aw 39)) (dv:Has P w K mg base g "set_rests" 1 ["n", "some"] dG):Has P w K mg base g "just_counter" 2 ["n", "some"] bK:=by
 obtain⟨f,fd,hm,F⟩:=D
 obtain⟨c,PT,MK⟩:=MK f fd hm F
 refine⟨f,fd,G7 ((bW (aw 39)).take 1) "just_count" "begun" ["rests", "some"] [2,1] F iS MK rfl (fun _=>rfl) (by decide +kernel) (by decide +kernel) rfl ⟨⟨_,_,_,[("rests", _),("some", _)],rfl,rfl⟩,rfl,rfl,rfl,by decide +kernel,rfl,rfl,by decide +kernel,⟨by decide,by decide⟩,fun _ _ _ _ _=>rfl⟩ (fun cdv A outer s H E hr=>?_),F.kp,F.binds (fun _ _ _ _ _ _ us hl=>Af hl fun _ _=>rfl),hm,cW F⟩
 have nd:=iS.nd
 exact !2 >>= aO dv hr (ae 0::ae 1::ai) (ag (ag ar))
theorem r8:az ["n", "number"] ["n", "number"] (aj (aw 53)):=fsc ⟨rfl,rfl,rfl⟩ (by decide +kernel)
theorem qw (D:aA K mg "zigzag_at" (aw 53)) (T:Blt mg) (au:Has P w K mg base g "number_needed" 3 ["thing", "least", "most"] aB) (cO:Has P w K mg base g "zigzag_many" 5 ["n"] cq) (eU:Has P w K mg base g "order_numbered" 5 ["n", "number", "many_with"] c_) (cz:Has P w K mg base g "just_counter" 2 ["n", "some"] bK) (a8:Has P w K mg base g "odd_places" 1 ["n"] bN):Has P w K mg base g "zigzag_at" 6 ["n", "number"] dN:=by
 refine dE D r8 (bd2 fun _ _ _ _ _ _ _ _=>rfl) fun nd f cdv A outer s H E hr=>?_
 exact dh (aO au hr (ae 1::aq::(aO cO hr (ae 0::ai) (ag ar) - aq)::ai) (ag (ag (ag ar))))\/!-aO eU hr (ae 0::ae 1::aO cz hr (ae 0::aO a8 hr (ae 0::ai) (ag ar)::ai) (ag (ag ar))::ai) (ag (ag (ag ar)))
theorem sT:az ["order"] ["order"] (aj (aw 49)):=fsc ⟨rfl,rfl,rfl⟩ (by decide +kernel)
theorem qM (D:aA K mg "is_zigzag" (aw 49)) (T:Blt mg) (cn:Has P w K mg base g "falls_of" 5 ["order"] b9) (a8:Has P w K mg base g "odd_places" 1 ["n"] bN):Has P w K mg base g "is_zigzag" 6 ["order"] di:=by
 refine dE D sT (bd1 fun _ _ _ _ _ _ _=>rfl) fun nd f cdv A outer s H E hr=>?_
 exact !-@lR _ _ _ _ _ _ _ _ _ _ _ (iu hr.units) kY (aO cn hr (ae 0::ai) (ag ar)) (aO a8 hr (aD bC bE rfl T.len NT (ae 0::ai)::ai) (ag ar)) (bD _)
theorem fU:az ["order", "many_with", "number", "place", "longer"] ["order", "many_with"] (aj (aw 31)):=fsc ⟨rfl,rfl,rfl⟩ (by decide +kernel)
theorem lB (D:aA K mg "number_among" (aw 31)) (T:Blt mg) (bu:Has P w K mg base g "longer_ones" 4 ["n", "begun", "many_with"] bp) (aZ:Has P w K mg base g "just_count" 2 ["rests", "some", "begun"] ba) (bL:Has P w K mg base g "ends_begun" 2 ["rests", "k", "first", "last", "begun"] bG):Has P w K mg base g "number_among" 5 ["order", "many_with"] d7:=by
 obtain⟨f,fd,hm,F⟩:=D
 obtain⟨ja,iX,dI,dU,dW,dJ,_⟩:=aZ
 obtain⟨jj,iV,dQ,d6,dR,dF,_⟩:=bL
 have TC:∀x np m,jM x=some (np,m)->∃f fd ps,mg x=some (.ref f)/\eK P w K mg base CX0 3 f fd ps (spM K g np m)/\OF K (.ref f)=true/\Binds K fd ps []:=by
  intro x np m e
  unfold jM at e
  by_cases bf:x="just_count"
  ·rw[if_pos bf] at e;cases e;rw[bf];exact⟨_,_,_,dJ,dI.mono (by decide),dU,dW⟩
  rw[if_neg bf] at e
  by_cases bj:x="ends_begun"
  ·rw[if_pos bj] at e;cases e;rw[bj];exact⟨_,_,_,dF,dQ.mono (by decide),d6,dR⟩
  rw[if_neg bj] at e
  cases e
 refine⟨f,fd,nX F fU (fun cdv A outer s H E hr=>?_),F.kp,F.binds (fun _ _ _ _ _ _ us hl=>Af hl fun _ _=>rfl),hm,cW F⟩
 have nd:=fU.nd
 exact 2 >>= aq\/gw Ol rfl (dB rfl T.range (aD bC bE rfl T.len NT (ae 0::ai)::ai)) (¬3) d9 (!gw Ol rfl (@eW _ _ _ _ _ _ (aO bu hr (aD bC bE rfl T.len NT (ae 0::ai)::fk (ae 0) iL (@fq _ _ _ _ _ (ae 3))::ae 1::ai) (ag (ag (ag ar))))) (¬4) d9 (!@eI _ _ _ _ _ _ _ _ _ _ (ae 4 ^ @kN _ _ _ _ _ _ _ _ _ iP ip aq<ae 0 ^ ae 3) (!F0 (i:=2) fU.nd rfl (by first | exact SW rfl | exact Tt rfl) (pN TC hr (ae 1) (ae 4::ai) (ag ar)) CQ Bv) aW))\/!-ae 2
theorem lF:az ["order"] ["order"] (aj (aw 54)):=fsc ⟨rfl,rfl,rfl⟩ (by decide +kernel)
theorem kO (D:aA K mg "zigzag_number" (aw 54)) (T:Blt mg) (dw:Has P w K mg base g "is_zigzag" 6 ["order"] di) (fK:Has P w K mg base g "number_among" 5 ["order", "many_with"] d7) (cz:Has P w K mg base g "just_counter" 2 ["n", "some"] bK) (a8:Has P w K mg base g "odd_places" 1 ["n"] bN):Has P w K mg base g "zigzag_number" 7 ["order"] cM:=by
 refine dE D lF (bd1 fun _ _ _ _ _ _ _=>rfl) fun nd f cdv A outer s H E hr=>?_
 exact @eI _ _ _ _ _ _ _ _ _ _ (@gL _ _ _ _ _ _ (@dZ _ _ _ _ _ _ gy (aO dw hr (ae 0::ai) (ag ar)) (fun _=>rfl))) (!(PS.imp jC fun E σ H ⟨α,env,h,s,w⟩=>w.elim)) aW\/!-aO fK hr (ae 0::aO cz hr (aD bC bE rfl T.len NT (ae 0::ai)::aO a8 hr (aD bC bE rfl T.len NT (ae 0::ai)::ai) (ag ar)::ai) (ag (ag ar))::ai) (ag (ag ar))
theorem fF:az ["_law_pen", "_law_size", "_law_many", "_law_number", "_law_some", "_law_one"] ["_law_pen"] (aj (aw 67)):=fsc ⟨rfl,rfl,rfl⟩ (by decide +kernel)
theorem iq (D:aA K mg "_law_zigzags_right" (aw 67)) (T:Blt mg) (bZ:Has P w K mg base g "_law_draw" 2 ["_law_pen", "_law_many"] aL) (cO:Has P w K mg base g "zigzag_many" 5 ["n"] cq) (c7:Has P w K mg base g "zigzag_row" 4 ["n"] aC) (gT:Has P w K mg base g "just_many" 6 ["n", "some"] eY) (gR:Has P w K mg base g "zigzag_at" 6 ["n", "number"] dN) (fw:Has P w K mg base g "zigzag_number" 7 ["order"] cM) (dw:Has P w K mg base g "is_zigzag" 6 ["order"] di) (cn:Has P w K mg base g "falls_of" 5 ["order"] b9) (dg:Has P w K mg base g "falls_many" 6 ["order"] b7):Has P w K mg base g "_law_zigzags_right" 8 ["_law_pen"] bo:=by
 refine dE D fF (bd1 fun _ _ _ _ _ _ _=>rfl) fun nd f cdv A outer s H E hr=>?_
 exact 1 >>= aq++aO bZ hr (ae 0::aq::ai) (ag (ag ar))\/2 >>= aO cO hr (ae 1::ai) (ag ar)\/@eI _ _ _ _ _ _ _ _ _ _ (@bM _ _ _ _ _ _ _ _ _ _ _ (dz hr.units) fE (aD (d_ rfl) iM rfl T.sum OD (aO c7 hr (ae 1::ai) (ag ar)::ai)) (ae 2) (bD _)) (!-eP) aW\/@eI _ _ _ _ _ _ _ _ _ _ (PW.pt (@xS _ _ _ _ _ _ _ _ _ (ae 1<aq) (@r9 _ _ _ _ _ _ (@bM _ _ _ _ _ _ _ _ _ _ _ (dz hr.units) fE (aO gT hr (ae 1::nW rfl rfl T.tuple rfl T.range (aq::(ae 1 - aq)::aq::ai)::ai) (ag (ag ar))) (ae 2) (bD _))))) (!-eP) aW\/3 >>= aO bZ hr (ae 0::ae 2::ai) (ag (ag ar))\/kj (osc:=aj (aw 67)) [1] ["_law_one", "_law_size"] rfl rfl rfl rfl (by decide +kernel) ⟨by decide +kernel,by decide +kernel,rfl,by decide +kernel,rfl,by decide +kernel⟩ (@eW _ _ _ _ _ _ (~~~(aq::ae 3::aD (Aa rfl) D6 rfl T.min PyProof.Rows.boot_min ((ae 3++aq)::(ae 2 - aq)::ai)::(ae 2 - aq)::ai))) (fun cl C aE aG fp=>iO) (fun cl C aE aG fp=>aO gR hr (ae 1::ae 0::ai) (ag (ag ar))) (i:=4) fF.nd rfl\/@eI _ _ _ _ _ _ _ _ _ _ (PW.pt (@rq _ _ _ _ _ _ _ _ _ (@bM _ _ _ _ _ _ _ _ _ _ _ (dz hr.units) fE (ae 4) (aD (cb.frz xE) Bg rfl T.sorted PyProof.Rows.boot_sorted (ae 4::ai)) (bD _)) (@lQ _ _ _ _ _ _ (@bM _ _ _ _ _ _ _ _ _ _ _ (dz hr.units) fE (aO fw hr (ae 4 ^ aq::ai) (ag ar)) (ae 3) (bD _))))) (!-eP) aW\/gw Ol rfl (@eW _ _ _ _ _ _ (ae 4)) (¬5) d9 (@eI _ _ _ _ _ _ _ _ _ _ (PW.pt (@rq _ _ _ _ _ _ _ _ _ (@bM _ _ _ _ _ _ _ _ _ _ _ D_ Fc (aO dw hr (ae 5::ai) (ag ar)) eP (bD _)) (@lQ _ _ _ _ _ _ (@bM _ _ _ _ _ _ _ _ _ _ _ (dz hr.units) fE (aO cn hr (ae 5::ai) (ag ar)) (nW rfl rfl T.tuple rfl T.range (aq::(ae 1 - aq)::aq::ai)) (bD _))))) (!-eP) aW\/!@eI _ _ _ _ _ _ _ _ _ _ (@bM _ _ _ _ _ _ _ _ _ _ _ (dz hr.units) fE (aO dg hr (ae 5::ai) (ag ar)) (ae 1 / aq - g_ qW BK rfl T.int Rt (@lR _ _ _ _ _ _ _ _ _ _ _ (iu hr.units) kY (ae 1 % aq) aq (bD _)::ai)) (bD _)) (!-eP) aW)\/!-eP
theorem wz:az ["_law_script", "_law_cell", "_law_pen", "_law_n", "_law_k", "_law_a", "_law_counts", "_law_many", "_law_few", "_law_b", "_law_some"] ["_law_script"] (aj (aw 68)):=fsc ⟨rfl,rfl,rfl⟩ (by decide +kernel)
theorem E2 (D:aA K mg "law" (aw 68)) (T:Blt mg) (fH:Has P w K mg base g "_law_cell_at" 1 ["_law_script", "_law_k"] cE) (fW:Has P w K mg base g "_law_pen_of" 1 ["_law_cell"] cV) (bZ:Has P w K mg base g "_law_draw" 2 ["_law_pen", "_law_many"] aL) (cK:Has P w K mg base g "first_count" 6 ["n", "k", "a"] aK) (f_:Has P w K mg base g "count_of" 5 ["n", "k"] cU) (e7:Has P w K mg base g "last_count" 6 ["n", "k", "a"] bJ) (cF:Has P w K mg base g "ends_count" 6 ["n", "k", "a", "b"] a_) (iy:Has P w K mg base g "ends_all" 7 ["n", "k", "a", "b"] d8) (dg:Has P w K mg base g "falls_many" 6 ["order"] b7) (dk:Has P w K mg base g "_law_zigzags_right" 8 ["_law_pen"] bo):Has P w K mg base g "law" 9 ["_law_script"] oM:=by
 refine Dw (dE D wz (bd1 fun _ _ _ _ _ _ _=>rfl) fun nd f cdv A outer s H E hr=>?_)
 exact gw Ol rfl (@eW _ _ _ _ _ _ (#[aO fH hr (ae 0::aq::ai) (ag (ag ar))::ai]++fk (ae 0) (@fq _ _ _ _ _ aq) (@fq _ _ _ _ _ aq))) (¬1) d9 (2 >>= aO fW hr (ae 1::ai) (ag ar)\/3 >>= aq++aO bZ hr (ae 2::aq::ai) (ag (ag ar))\/Jm (i:=4) (j:=5) rfl wz.nd rfl rfl (~~~(aO bZ hr (ae 2::ae 3::ai) (ag (ag ar))::aO bZ hr (ae 2::ae 3::ai) (ag (ag ar))::ai))\/@eI _ _ _ _ _ _ _ _ _ _ (@bM _ _ _ _ _ _ _ _ _ _ _ (dz hr.units) fE (aD (d_ rfl) iM rfl T.sum OD (cP (osc:=aj (aw 68)) [3,4] ["_law_one", "_law_n", "_law_k"] rfl rfl rfl rfl (by decide +kernel) ⟨by decide +kernel,by decide +kernel,rfl,by decide +kernel,rfl,by decide +kernel⟩ (dB rfl T.range (ae 3::ai)) (fun cl C aE aG fp=>iO) (fun cl C aE aG fp=>aO cK hr (ae 1::ae 2::ae 0::ai) (ag (ag (ag ar))))::ai)) (aO f_ hr (ae 3::ae 4::ai) (ag (ag ar))) (bD _)) (!-eP) aW\/@eI _ _ _ _ _ _ _ _ _ _ (@bM _ _ _ _ _ _ _ _ _ _ _ (dz hr.units) fE (aD (d_ rfl) iM rfl T.sum OD (cP (osc:=aj (aw 68)) [3,4] ["_law_one", "_law_n", "_law_k"] rfl rfl rfl rfl (by decide +kernel) ⟨by decide +kernel,by decide +kernel,rfl,by decide +kernel,rfl,by decide +kernel⟩ (dB rfl T.range (ae 3::ai)) (fun cl C aE aG fp=>iO) (fun cl C aE aG fp=>aO e7 hr (ae 1::ae 2::ae 0::ai) (ag (ag (ag ar))))::ai)) (aO f_ hr (ae 3::ae 4::ai) (ag (ag ar))) (bD _)) (!-eP) aW\/6 >>= cP (osc:=aj (aw 68)) [3,4,5] ["_law_b", "_law_n", "_law_k", "_law_a"] rfl rfl rfl rfl (by decide +kernel) ⟨by decide +kernel,by decide +kernel,rfl,by decide +kernel,rfl,by decide +kernel⟩ (dB rfl T.range (ae 3::ai)) (fun cl C aE aG fp=>iO) (fun cl C aE aG fp=>aO cF hr (ae 1::ae 2::ae 3::ae 0::ai) (ag (ag (ag (ag ar)))))\/@eI _ _ _ _ _ _ _ _ _ _ (PW.pt (@rq _ _ _ _ _ _ _ _ _ (@bM _ _ _ _ _ _ _ _ _ _ _ (dz hr.units) fE (aD (d_ rfl) iM rfl T.sum OD (ae 6::ai)) (aO cK hr (ae 3::ae 4::ae 5::ai) (ag (ag (ag ar)))) (bD _)) (@lQ _ _ _ _ _ _ (PW.pt (@xS _ _ _ _ _ _ _ _ _ (ae 3 > aq) (@r9 _ _ _ _ _ _ (@bM _ _ _ _ _ _ _ _ _ _ _ (dz hr.units) fE (ae 6 ^ ae 5) aq (bD _)))))))) (!-eP) aW\/@eI _ _ _ _ _ _ _ _ _ _ (@bM _ _ _ _ _ _ _ _ _ _ _ (dz hr.units) fE (cP (osc:=aj (aw 68)) [3,4,5] ["_law_b", "_law_n", "_law_k", "_law_a"] rfl rfl rfl rfl (by decide +kernel) ⟨by decide +kernel,by decide +kernel,rfl,by decide +kernel,rfl,by decide +kernel⟩ (dB rfl T.range (ae 3::ai)) (fun cl C aE aG fp=>iO) (fun cl C aE aG fp=>aO cF hr (ae 1::(ae 1 - aq - ae 2)::ae 0::ae 3::ai) (ag (ag (ag (ag ar)))))) (ae 6) (bD _)) (!-eP) aW\/7 >>= aO cK hr (ae 3::ae 4::ae 5::ai) (ag (ag (ag ar)))\/@eI _ _ _ _ _ _ _ _ _ _ (@bM _ _ _ _ _ _ _ _ _ _ _ (dz hr.units) fE (#[aO cK hr (ae 3::(ae 3 - aq - ae 4)::(ae 3 - aq - ae 5)::ai) (ag (ag (ag ar)))::aO e7 hr (ae 3::(ae 3 - aq - ae 4)::ae 5::ai) (ag (ag (ag ar)))::ai]) (#[ae 7::ae 7::ai]) (bD _)) (!-eP) aW\/kj (osc:=aj (aw 68)) [6] ["_law_b", "_law_counts"] rfl rfl rfl rfl (by decide +kernel) ⟨by decide +kernel,by decide +kernel,rfl,by decide +kernel,rfl,by decide +kernel⟩ (dB rfl T.range (ae 3::ai)) (fun cl C aE aG fp=>jx (ae 1 ^ ae 0<aq)) (fun cl C aE aG fp=>ae 0) (i:=8) wz.nd rfl\/gw Ol rfl (@eW _ _ _ _ _ _ (fk (ae 8) iL (@fq _ _ _ _ _ aq))) (¬9) d9 (10 >>= aO iy hr (ae 3::ae 4::ae 5::ae 9::ai) (ag (ag (ag (ag ar))))\/@eI _ _ _ _ _ _ _ _ _ _ (PW.pt (@rq _ _ _ _ _ _ _ _ _ (@bM _ _ _ _ _ _ _ _ _ _ _ (dz hr.units) fE (aD bC bE rfl T.len NT (ae 10::ai)) (ae 6 ^ ae 9) (bD _)) (@lQ _ _ _ _ _ _ (@bM _ _ _ _ _ _ _ _ _ _ _ (dz hr.units) fE (ae 10) (Bj (cb.frz (uX rfl)) (AF rfl hr.units) CO rfl T.sorted PyProof.Rows.boot_sorted rfl T.set PyProof.Rows.boot_set (ae 10::ai)) (bD _))))) (!-eP) aW\/!@eI _ _ _ _ _ _ _ _ _ _ (@bM _ _ _ _ _ _ _ _ _ _ _ (dz hr.units) fE (cP (osc:=aj (aw 68)) [5,9,4] ["_law_one", "_law_a", "_law_b", "_law_k"] rfl rfl rfl rfl (by decide +kernel) ⟨by decide +kernel,by decide +kernel,rfl,by decide +kernel,rfl,by decide +kernel⟩ (@eW _ _ _ _ _ _ (ae 10)) (fun cl C aE aG fp=>jx (@bM _ _ _ _ _ _ _ _ _ _ _ (dz hr.units) fE (~~~(ae 0 ^ aq::ae 0 ^ @kN _ _ _ _ _ _ _ _ _ iP ip aq::aO dg hr (ae 0::ai) (ag ar)::ai)) (~~~(ae 1::ae 2::ae 3::ai)) (bD _))) (fun cl C aE aG fp=>ae 0)) (#[ai]) (bD _)) (!-eP) aW)\/!@eI _ _ _ _ _ _ _ _ _ _ (@gL _ _ _ _ _ _ (@dZ _ _ _ _ _ _ gy (aO dk hr (ae 2::ai) (ag ar)) (fun _=>rfl))) (!-eP) aW)\/!-eP
end
structure Text (K:gV) (ts:List Addr):Prop where
 oA:bc K "_law_cell_at" (aw 63)
 p6:bc K "_law_pen_of" (aw 65)
 vj:bc K "_law_next" (aw 64)
 wm:bc K "_law_draw" (aw 66)
 wR:bc K "is_whole" (aw 8)
 vG:bc K "is_within" (aw 9)
 nj:bc K "number_needed" (aw 10)
 gX:tL K "numbers_needed_listed" "numbers_needed" (aw 21)
 sI:bc K "end_needed" (aw 45)
 se:bc K "lower_left" (aw 27)
 xv:bc K "falls_in" (aw 15)
 qy:bc K "begun_count" (aw 26)
 p9:bc K "rest_counts" (aw 25)
 wK:bc K "rests_of" (aw 24)
 pW:bc K "first_count" (aw 41)
 gF:tL K "numbers_needed_triangle" "numbers_needed" (aw 60)
 tE:bc K "longer_row" (aw 57)
 Cj:bc K "row_of" (aw 58)
 xm:bc K "count_of" (aw 59)
 ui:bc K "last_count" (aw 42)
 pG:bc K "ends_counted" (aw 46)
 sd:bc K "ends_count" (aw 43)
 sE:bc K "just_count" (aw 38)
 pT:bc K "rank_beside" (aw 48)
 sW:bc K "ends_begun" (aw 47)
 qO:bc K "longer_ones" (aw 28)
 mY:bc K "orders_listed" (aw 29)
 qL:bc K "told_needed" (aw 23)
 xN:bc K "ends_all" (aw 44)
 tV:bc K "order_good" (aw 13)
 pE:bc K "order_needed" (aw 14)
 xB:bc K "falls_of" (aw 16)
 t8:bc K "falls_many" (aw 17)
 tB:bc K "odd_places" (aw 50)
 tW:bc K "zigzag_row" (aw 51)
 qB:bc K "zigzag_many" (aw 52)
 xV:bc K "set_good" (aw 34)
 tX:bc K "set_needed" (aw 35)
 vf:bc K "set_rests" (aw 37)
 vT:bc K "just_many" (aw 36)
 lO:bc K "order_numbered" (aw 30)
 o8:bc K "just_counter" (aw 39)
 vL:bc K "zigzag_at" (aw 53)
 vA:bc K "is_zigzag" (aw 49)
 oU:bc K "number_among" (aw 31)
 mW:bc K "zigzag_number" (aw 54)
 jv:bc K "_law_zigzags_right" (aw 67)
 KP:bc K "law" (aw 68)
 Hf:Od K mainGlobals "bool" = some none
 uV:Od K mainGlobals "enumerate" = some none
 Kf:Od K mainGlobals "int" = some none
 tQ:Od K mainGlobals "isinstance" = some none
 K7:Od K mainGlobals "len" = some none
 JG:Od K mainGlobals "max" = some none
 J0:Od K mainGlobals "min" = some none
 D1:Od K mainGlobals "range" = some none
 JL:Od K mainGlobals "set" = some none
 BX:Od K mainGlobals "sorted" = some none
 Ko:Od K mainGlobals "sum" = some none
 Em:Od K mainGlobals "tuple" = some none
 gP:∃t,Od K mainGlobals "MOST_LISTED" = some (some (Qm 12 t))
 dy:∃t,Od K mainGlobals "MOST_NUMBERS_orders" = some (some (Qm 20 t))
 eF:∃t,Od K mainGlobals "MOST_NUMBERS_sets" = some (some (Qm 12 t))
 jm:∃t,Od K mainGlobals "MOST_ROWS" = some (some (Qm 30 t))
 jo:∃t,Od K mainGlobals "MOST_TOLD" = some (some (Qm 300 t))
 d8:E9 K ts "ends_all" (aw 44)
 bK:E9 K ts "just_counter" (aw 39)
theorem all_mk {P:NW}{w:Oo}{K:gV}{h:Heap}{mg:Str->Option NB}{fa:Addr} (X:K.In h) (G:h.Ns mainGlobals mg) (hfa:mg "law" = some (.ref fa)){ts:List Addr} (hU:mkU K=true) (t:Text K ts) :
  ∃fd:QW,(∀(s:NF) (v:NB),Tc s fd ⟨[v],[]⟩ [("_law_script", v)])/\∀base:Heap,K.In base->base.Ns mainGlobals mg->(∀P∈ts,base.BuiltinsAt mg P)->eK P w K mg base CX0 9 fa fd ["_law_script"] (spM K (gOf mg) 1 oM):=by
 have T:Blt mg:=⟨Ov X G t.Hf,Ov X G t.uV,Ov X G t.Kf,Ov X G t.tQ,Ov X G t.K7,Ov X G t.JG,Ov X G t.J0,Ov X G t.D1,Ov X G t.JL,Ov X G t.BX,Ov X G t.Ko,Ov X G t.Em⟩
 obtain⟨jY,gP⟩:=t.gP
 have fL:=Ql X G gP
 obtain⟨cG,dy⟩:=t.dy
 have bq:=Ql X G dy
 obtain⟨fY,eF⟩:=t.eF
 have eG:=Ql X G eF
 obtain⟨gK,jm⟩:=t.jm
 have d5:=Ql X G jm
 obtain⟨mK,jo⟩:=t.jo
 have jt:=Ql X G jo
 have nZ:=aA.of X G t.oA
 have pS:=aA.of X G t.p6
 have uT:=aA.of X G t.vj
 have vh:=aA.of X G t.wm
 have wV:=aA.of X G t.wR
 have uA:=aA.of X G t.vG
 have m9:=aA.of X G t.nj
 have g9:=lE.of X G t.gX
 have sF:=aA.of X G t.sI
 have tJ:=aA.of X G t.se
 have w8:=aA.of X G t.xv
 have qb:=aA.of X G t.qy
 have qI:=aA.of X G t.p9
 have xu:=aA.of X G t.wK
 have qz:=aA.of X G t.pW
 have gE:=lE.of X G t.gF
 have tI:=aA.of X G t.tE
 have CV:=aA.of X G t.Cj
 have xr:=aA.of X G t.xm
 have tD:=aA.of X G t.ui
 have oz:=aA.of X G t.pG
 have ur:=aA.of X G t.sd
 have tK:=aA.of X G t.sE
 have qx:=aA.of X G t.pT
 have uh:=aA.of X G t.sW
 have qN:=aA.of X G t.qO
 have mS:=aA.of X G t.mY
 have qj:=aA.of X G t.qL
 have xA:=aA.of X G t.xN
 have r6:=aA.of X G t.tV
 have n9:=aA.of X G t.pE
 have wQ:=aA.of X G t.xB
 have ug:=aA.of X G t.t8
 have t7:=aA.of X G t.tB
 have tO:=aA.of X G t.tW
 have qA:=aA.of X G t.qB
 have wZ:=aA.of X G t.xV
 have sh:=aA.of X G t.tX
 have u4:=aA.of X G t.vf
 have uC:=aA.of X G t.vT
 have lM:=aA.of X G t.lO
 have ou:=aA.of X G t.o8
 have vo:=aA.of X G t.vL
 have vW:=aA.of X G t.vA
 have nV:=aA.of X G t.oU
 have nq:=aA.of X G t.mW
 have i7:=aA.of X G t.jv
 have IH:=aA.of X G t.KP
 obtain⟨f,fd,hm,F⟩:=IH
 have e:=hfa.symm.trans hm
 cases e
 refine⟨fd,?_,fun base _ _ hBA=>?_⟩
 ·obtain⟨oc,od,kV,doc,pm,an,cdv,ct,osl,rfl,lk,hcd⟩:=F.ex
  exact fun s v=>.of_eq rfl
 ·have fH:=lZ (P:=P) (w:=w) (base:=base) (g:=gOf mg) nZ T
  have fW:=m_ (P:=P) (w:=w) (base:=base) (g:=gOf mg) pS T
  have fO:=qg (P:=P) (w:=w) (base:=base) (g:=gOf mg) uT T
  have bZ:=qH (P:=P) (w:=w) (base:=base) (g:=gOf mg) vh T fO
  have iA:=sH (P:=P) (w:=w) (base:=base) (g:=gOf mg) wV T
  have bV:=qm (P:=P) (w:=w) (base:=base) (g:=gOf mg) uA T iA
  have au:=kB (P:=P) (w:=w) (base:=base) (g:=gOf mg) m9 T bV
  have cJ:=gD (P:=P) (w:=w) (base:=base) (g:=gOf mg) g9 T fL au
  have bI:=oZ (P:=P) (w:=w) (base:=base) (g:=gOf mg) sF T cJ au
  have df:=o6 (P:=P) (w:=w) (base:=base) (g:=gOf mg) tJ T
  have bw:=tY (P:=P) (w:=w) (base:=base) (g:=gOf mg) w8 T
  have cN:=mO (P:=P) (w:=w) (base:=base) (g:=gOf mg) qb T df bw
  have fV:=mX (P:=P) (w:=w) (base:=base) (g:=gOf mg) qI T
  have bA:=tU (P:=P) (w:=w) (base:=base) (g:=gOf mg) xu T fV
  have cK:=mZ (P:=P) (w:=w) (base:=base) (g:=gOf mg) qz T bI cN bA
  have cg:=f9 (P:=P) (w:=w) (base:=base) (g:=gOf mg) gE T d5 au
  have gq:=oO (P:=P) (w:=w) (base:=base) (g:=gOf mg) tI T
  have j_:=wy (P:=P) (w:=w) (base:=base) (g:=gOf mg) CV T d5 au gq
  have f_:=sV (P:=P) (w:=w) (base:=base) (g:=gOf mg) xr T cg j_
  have e7:=oG (P:=P) (w:=w) (base:=base) (g:=gOf mg) tD T bI cN bA
  have cy:=lV (P:=P) (w:=w) (base:=base) (g:=gOf mg) oz T
  have cF:=nL (P:=P) (w:=w) (base:=base) (g:=gOf mg) ur T bI au cy bA
  have aZ:=pB (P:=P) (w:=w) (base:=base) (g:=gOf mg) tK T bw df
  have eR:=mP (P:=P) (w:=w) (base:=base) (g:=gOf mg) qx T
  have bL:=pf (P:=P) (w:=w) (base:=base) (g:=gOf mg) uh T bw cy eR
  have bu:=mV (P:=P) (w:=w) (base:=base) (g:=gOf mg) qN T aZ bL
  have fC:=lh (P:=P) (w:=w) (base:=base) (g:=gOf mg) mS T bu
  have fT:=nr (P:=P) (w:=w) (base:=base) (g:=gOf mg) qj T jt
  have iy:=r_ (P:=P) (w:=w) (base:=base) (g:=gOf mg) xA T (zK.of X G hBA hU t.d8) fC fT cF bA
  have gA:=oK (P:=P) (w:=w) (base:=base) (g:=gOf mg) r6 T bq bV
  have fJ:=lD (P:=P) (w:=w) (base:=base) (g:=gOf mg) n9 T gA
  have cn:=uk (P:=P) (w:=w) (base:=base) (g:=gOf mg) wQ T fJ bw
  have dg:=nQ (P:=P) (w:=w) (base:=base) (g:=gOf mg) ug T cn
  have a8:=oq (P:=P) (w:=w) (base:=base) (g:=gOf mg) t7 T
  have c7:=pH (P:=P) (w:=w) (base:=base) (g:=gOf mg) tO T bq au a8
  have cO:=m8 (P:=P) (w:=w) (base:=base) (g:=gOf mg) qA T c7
  have iD:=rY (P:=P) (w:=w) (base:=base) (g:=gOf mg) wZ T eG au bV
  have gk:=o7 (P:=P) (w:=w) (base:=base) (g:=gOf mg) sh T iD
  have dv:=p_ (P:=P) (w:=w) (base:=base) (g:=gOf mg) u4 T
  have gT:=qr (P:=P) (w:=w) (base:=base) (g:=gOf mg) uC T gk aZ dv
  have eU:=kl (P:=P) (w:=w) (base:=base) (g:=gOf mg) lM T bu aZ bL
  have cz:=lH (P:=P) (w:=w) (base:=base) (g:=gOf mg) ou T (zK.of X G hBA hU t.bK) dv
  have gR:=qw (P:=P) (w:=w) (base:=base) (g:=gOf mg) vo T au cO eU cz a8
  have dw:=qM (P:=P) (w:=w) (base:=base) (g:=gOf mg) vW T cn a8
  have fK:=lB (P:=P) (w:=w) (base:=base) (g:=gOf mg) nV T bu aZ bL
  have fw:=kO (P:=P) (w:=w) (base:=base) (g:=gOf mg) nq T dw fK cz a8
  have dk:=iq (P:=P) (w:=w) (base:=base) (g:=gOf mg) i7 T bZ cO c7 gT gR fw dw cn dg
  have Dk:=E2 (P:=P) (w:=w) (base:=base) (g:=gOf mg) ⟨_,_,hm,F⟩ T fH fW bZ cK f_ e7 cF iy dg dk
  exact GQ F hm Dk
theorem walk {l:PySem.W.OpenLaw}{q:NW}{loose:List Str}{XP:(Str->Option NB)->Heap->Prop}{YP:Oo->Heap->Prop}{d:DefRec}{K:Params->gV}{ts:List Addr} (hn:l.most=some 63) (hdf:d.params.defaults=[])
  (hY:∀(w:Oo) (h:Heap),YP w h->(K w.params).In h) (hT:∀(w:Oo) (h:Heap),YP w h->∀P∈ts,h.get? P=some (Po #[])) (hI:∀P,HU (K P) ts=true)
  (ok:∀ns:List Int,ns.length<=63->∃h,oM [.scr (ns.map D.int)] []=.ok (.bl true) h)
  (F:∀(w:Oo) (mg:Str->Option NB) (fa:Addr) (h:Heap),(K w.params).In h->h.Ns mainGlobals mg->mg d.name=some (.ref fa) →
   ∃fd:QW,(∀(s:NF) (u:NB),Tc s fd ⟨[u],[]⟩ [("_law_script", u)])/\∀base:Heap,(K w.params).In base->base.Ns mainGlobals mg->(∀P∈ts,base.BuiltinsAt mg P)->eK l.prog w (K w.params) mg base CX0 9 fa fd ["_law_script"] (spM (K w.params) (gOf mg) 1 oM)) :
  PySem.W.WalkO q loose XP YP l.row.toRowW d [] (fun f vs=>TL f vs):=
 Fu (k:=9) hn hdf ⟨rfl,by decide,by decide,rfl⟩ hY hT hI ok F
theorem jH {i:Int} (h1:-(10 ^ 30)<=i) (h2:i<=10 ^ 30):sml i=true:=Ca (N4 (show i.natAbs<=10 ^ 30 by lia) (by decide +kernel))
theorem CD {h:Hh}{n:Nat}{ds:List D} (e:aH h n=some ds):n<h.length:=by
 unfold aH at e
 by_cases hl:n<h.length
 ·exact hl
 ·rw[Ot (by lia)] at e;cases e
theorem zu {h:Hh}{n:Nat}{ds es:List D} (e:aH h n=some ds):aH (h.set n (.lst es)) n=some es:=by
 unfold aH;rw[Q5 (CD e)]
theorem E4 {h t:Hh}{n:Nat}{ds:List D} (e:aH h n=some ds):aH (h++t) n=some ds:=by
 have:=CD e
 unfold aH at e ⊢;rw[NN this];exact e
structure Pen where
 a:Int
 b:Int
 s:Int
noncomputable abbrev bF (p:Pen):List D:=[.int p.a,.int p.b,.int p.s]
noncomputable def nxt (x:Int):Int:=((x+7919) % 2147483647*((x+7919) % 2147483647)+48271*((x+7919) % 2147483647)+12345) % 2147483629
noncomputable def fZ (p:Pen) (m:Int):Int:=if p.b=1/\0<p.a then p.a % m else nxt (nxt p.s+7) / 64 % m
noncomputable def iW (p:Pen) (m:Int):Pen:=if p.b=1/\0<p.a then ⟨p.a / m,p.b,p.s⟩ else ⟨p.a,p.b,nxt (nxt p.s+7)⟩
theorem x_ (p:Pen){m:Int} (h:0<m):0<=fZ p m:=by unfold fZ;split<;>exact RH _ (by lia)
theorem u_ (p:Pen){m:Int} (h:0<m):fZ p m<m:=by unfold fZ;split<;>exact RO _ h
@[simp] theorem Ml {x:Int}{h:Hh}:eZ [.int x] h=.ok (.int (nxt x)) h:=by
 have h1:0<=(x+7919) % 2147483647:=RH _ (by decide)
 have h2:(x+7919) % 2147483647<2147483647:=RO _ (by decide)
 have s1:sml ((x+7919) % 2147483647)=true:=jH (by lia) (by lia)
 have s2:sml 48271=true:=by decide +kernel
 simp[eZ,aV,s1,s2,nxt]
theorem GD {p:Pen}{m:Int}{h:Hh}{n:Nat} (e:aH h n=some (bF p)) (hm:0<m) (hm2:m<=10 ^ 20):aL [.ref n,.int m] h=.ok (.int (fZ p m)) (h.set n (.lst (bF (iW p m)))):=by
 have s1:sml m=true:=jH (by lia) (by lia)
 have s2:sml 64=true:=by decide +kernel
 have i2:∀(x y z:Int) (h:Hh),ixK [D.int x,.int y,.int z] 2 h=.ok (.int z) h:=fun _ _ _ _=>rfl
 have n0:ixN (bF p).length 0=some 0:=rfl
 have n2:ixN (bF p).length 2=some 2:=rfl
 by_cases c:p.b=1
 ·by_cases c2:0<p.a
  ·simp[aL,aV,mG e,c,c2,hm,s1,nF e n0,fZ,iW]
  ·simp[aL,aV,mG e,c,c2,i2,nF e n2,mG (zu e),s1,s2,hm,fZ,iW]
 ·simp[aL,aV,mG e,c,i2,nF e n2,mG (zu e),s1,s2,hm,fZ,iW]
@[simp] theorem k9 {p:Pen}{m:Int}{h t:Hh} (hm:0<m/\m<=10 ^ 20):aL [.ref h.length,.int m] (h++.lst (bF p)::t)=.ok (.int (fZ p m)) (h++.lst (bF (iW p m))::t):=by
 rw[GD f7 hm.1 hm.2,tT]
noncomputable def zb (c:Int):Pen:=⟨max c (0 - c),if max c (0 - c) ≥ 10 ^ 18 then 1 else 0,max c (0 - c) % 1000003⟩
@[simp] theorem Nt {c:Int}{h:Hh}:cV [.int c] h=.ok (.ref h.length) (h++[.lst (bF (zb c))]):=by
 have s1:sml 10=true:=by decide +kernel
 simp[cV,aV,s1,zb]
@[simp] theorem Ln {ns:List Int}{h:Hh}:cE [.scr (ns.map D.int),.int 0] h=.ok (.int (ns.headD 0)) h:=by
 cases ns with
 | nil=>simp[cE,aV]
 | cons c r=>simp[cE,aV]
@[simp] theorem Li {i:Int}{h:Hh}:gh [.int i] h=.ok (.bl true) h:=by simp[gh,aV]
@[simp] theorem Jx {i a b:Int}{h:Hh}:bQ [.int i,.int a,.int b] h=.ok (.bl (decide (a<=i/\i<=b))) h:=by
 by_cases z:a<=i<;>simp[bQ,aV,z]
@[simp] theorem kF {i a b:Int}{h:Hh} (hi:a<=i/\i<=b):aB [.int i,.int a,.int b] h=.ok .non h:=by
 simp[aB,aV,hi]
structure Ord (n:Nat) (xs:List Int):Prop where
 len:xs.length=n
 nd:xs.Nodup
 lo:∀x∈xs,0<=x
 hi:∀x∈xs,x<n
noncomputable def gi (lo:Int) (n:Nat):List Int:=(ND n).map fun(i:Nat)=>lo+i
theorem Fq (lo:Int) (n:Nat):cX lo n=(gi lo n).map D.int:=by simp[cX,gi,ON]
theorem pJ (lo:Int) (n:Nat):(gi lo n).length=n:=by simp[gi]
theorem jk (n:Nat):Ord n (gi 0 n):=by
 refine⟨pJ _ _,?_,?_,?_⟩
 ·unfold gi List.Nodup
  rw[OT]
  exact Sa.imp (fun{a b} h e=>h (by lia)) List.nodup_range
 ·intro x hx;simp[gi] at hx;lia
 ·intro x hx;simp[gi] at hx;lia
theorem Gr {n:Nat}{xs:List Int}{h:Hh} (o:Ord n xs) (h1:1<=n) (h2:n<=20) (w:Wf h):e_ [.tup (xs.map D.int)] h=.ok (.bl true) h:=by
 have hl:=o.len
 obtain⟨q,_⟩:=oo (tg:=gN 1) (body:=bP (fR (av gS (ah bQ (aa (af 1) (aa (cC (.int 0)) (aa (ao a9 (ah b_ (aa (af 0) ak)) (cC (.int 1))) ak)))))) (aM (cC (.bl false))) aQ)
  (fun(s:Option D)=>[some (.tup (xs.map D.int)),s]) (fun _=>h) D.int (fun s x=>some (.int x)) (fun r s=>∀x∈r,0<=x/\x<n) (fun s x r hr=>⟨fun y hy=>hr y (ox _ hy),.inl (by
   have:=hr x NG
   have z:0<=x/\x<=↑xs.length - 1:=by lia
   simp[z])⟩) xs none (fun x hx=>⟨o.lo x hx,o.hi x hx⟩)
 have c1:(1:Int)<=xs.length:=by lia
 have c2:(xs.length:Int)<=20:=by lia
 have c3:xs.length<=4000:=by lia
 have c4:=Ar o.nd
 simp[e_,aV,c1,c2,q,c3,c4]
 exact pk w rfl
theorem lK {n:Nat}{xs:List Int}{h:Hh} (o:Ord n xs) (h1:1<=n) (h2:n<=20) (w:Wf h):dH [.tup (xs.map D.int)] h=.ok .non h:=by
 simp[dH,aV,Gr o h1 h2 w]
noncomputable def jO {X:Type} (xs:List X) (lo hi:Option Int):List X:=(xs.drop (HT.sIx xs.length 0 lo)).take (HT.sIx xs.length xs.length hi - HT.sIx xs.length 0 lo)
theorem jA {X:Type} (f:X->D) (xs:List X) (lo hi:Option Int):cutD (xs.map f) lo hi=(jO xs lo hi).map f:=by
 unfold cutD jO
 rw[NJ,List.map_take,List.map_drop]
theorem tG {X:Type} (xs:List X) (k:Nat):jO xs none (some (k:Int))=xs.take k:=by
 unfold jO
 rw[HT.u7,HT.yS]
 simp
theorem Ai {X:Type} (xs:List X) (k:Nat):jO xs (some (k:Int)) none=xs.drop k:=by
 unfold jO
 rw[HT.u7,HT.yS]
 rcases Nat.le_total k xs.length with h | h
 ·rw[Sx h,OX (by simp)]
 ·rw[Nat.min_eq_right h];simp[PQ h]
theorem zE (i:Int):∀ns:List Int,((ns.map D.int).any fun d=>eqF d (.int i))=ns.any (· == i)
 | []=>rfl
 | n::r=>by rw[NV,QE,QE,zE i r];rfl
theorem zM (ns:List Int):(ns.map D.int).all fX=true:=by simp[fX]
@[simp] theorem Jk {neg:Bool}{i:Int}{ns:List Int}{h:Hh}:dIn neg (.int i) (.tup (ns.map D.int)) h=.ok (.bl (if neg then !(ns.any (· == i)) else ns.any (· == i))) h:=by
 simp only[dIn,jw,fX,zM,and_self,if_true,zE]
noncomputable def sA (xs:List Int):List Nat:=(ND (xs.length - 1)).filter fun i=>decide (gI xs (i+1)<gI xs i)
noncomputable def aY (xs:List Int):List Int:=(sA xs).map fun(i:Nat)=>(i:Int)
theorem z_ {xs:List Int}{h:Hh}{d:D} (hd:∀(i:Int),dIx d (.int i) h=ixK (xs.map D.int) i h):cx (av asB (ao dGt (ao dIx (af 1) (af 0)) (ao dIx (af 1) (ao (cH aF) (af 0) (cC (.int 1)))))) (af 0) (fun x=>[some x,some d]) (cX 0 (xs.length - 1)) h=.ok ((aY xs).map D.int) h:=by
 rw[uB (fun i=>decide (gI xs (i+1)<gI xs i)) (fun i=>D.int i)]
 ·simp[aY,sA,ON]
 ·intro i hi
  have e1:ixK (xs.map D.int) (i:Int) h=.ok (.int (gI xs i)) h:=eS rfl (by lia)
  have e2:ixK (xs.map D.int) ((i:Int)+1) h=.ok (.int (gI xs (i+1))) h:=eS (by lia) (by lia)
  simp[hd,e1,e2]
theorem uc {h:Hh} (w:Wf h) (p:Pen):Wf (h++[.lst (bF p)]):=w.app rfl
theorem ph (p:Pen){m:Nat} (h:0<m):∃k:Nat,fZ p (m:Int)=(k:Int)/\k<m:=by
 have h0:=x_ p (show(0:Int)<(m:Int) by lia)
 have h1:=u_ p (show(0:Int)<(m:Int) by lia)
 exact⟨(fZ p m).toNat,by lia,by lia⟩
theorem JK (p:Pen) (m:Int) (h:0<m):∃k:Nat,fZ p m=(k:Int)/\(k:Int)<m:=by
 have h0:=x_ p h
 have h1:=u_ p h
 exact⟨(fZ p m).toNat,by lia,by lia⟩
theorem rH (p:Pen){m:Nat} (h:0<m):∃k:Nat,1+fZ p (m:Int)=(k:Int)/\1<=k/\k<=m:=by
 obtain⟨k,e,hk⟩:=ph p h
 exact⟨k+1,by lia,by lia,by lia⟩
theorem rK (ns:List Int) (lo hi:Option Int):cutD (ns.map D.int) lo hi=(jO ns lo hi).map D.int:=jA _ _ _ _
theorem DI {X:Type} (xs:List X) (lo hi:Option Int):(jO xs lo hi).length<=xs.length:=by
 unfold jO;rw[Oa,QL];lia
noncomputable def uD (xs:List Int):List Int:=(ND (xs.length+1)).map fun(k:Nat)=>((k:Int)+1)*gI (0::xs++[0]) (k+1)+((xs.length:Int)+1 - (k:Int))*gI (0::xs++[0]) k
noncomputable def pX:Nat->List Int
 | 0=>[1]
 | n+1=>uD (pX n)
theorem AL:∀n,n<31->(pX n).length=n+1/\∀x∈pX n,x.natAbs<=10 ^ 40:=by decide +kernel
theorem Al (xs:List Int):(uD xs).length=xs.length+1:=by simp[uD]
theorem kI:∀n,(pX n).length=n+1
 | 0=>rfl
 | n+1=>by rw[pX,Al,kI n]
theorem G0 {x:Int} (h:x.natAbs<=10 ^ 40):sml x=true:=Ca (N4 h (by decide +kernel))
theorem AM {xs:List Int}{b:Nat} (h:∀x∈xs,x.natAbs<=b) (k:Nat):(gI xs k).natAbs<=b:=by
 by_cases hk:k<xs.length
 ·exact h _ (GL hk)
 ·unfold gI;rw[OE,Ot (by lia)];simp
theorem A4 {xs:List Int}{h:Hh} (hl:xs.length<=100) (hb:∀x∈xs,x.natAbs<=10 ^ 40):ed [.frl (xs.map D.int)] h=.ok (.frl ((uD xs).map D.int)) h:=by
 have hb':∀k,sml (gI (0::xs++[0]) k)=true:=fun k=>G0 (AM (fun y hy=>by
  simp at hy
  rcases hy with rfl | hy | rfl
  ·decide
  ·exact hb y hy
  ·decide) k)
 have z1:((xs.length:Int)+1).natAbs<=1000000:=by lia
 have z2:((xs.length:Int)+1).toNat=xs.length+1:=by lia
 have z3:xs.length+1<=1000000:=by lia
 have z4:1+xs.length<=1000000:=by lia
 have z5:xs.length+1+1<=1000000:=by lia
 have q:=fG (h:=h) (n:=xs.length+1) (te:=ao (cH aF) (ao (mT aF) (ao (cH aF) (af 0) (cC (.int 1))) (ao dIx (af 1) (ao (cH aF) (af 0) (cC (.int 1))))) (ao (mT aF) (ao a9 (af 2) (af 0)) (ao dIx (af 1) (af 0))))
  (ee:=fun d=>[some d,some (.frl (D.int 0::(xs.map D.int++[D.int 0]))),some (.int ((xs.length:Int)+1))]) (fun(k:Nat)=>D.int (((k:Int)+1)*gI (0::xs++[0]) (k+1)+((xs.length:Int)+1 - (k:Int))*gI (0::xs++[0]) k)) (fun i hi=>by
   have t1:ixK (D.int 0::(xs.map D.int++[D.int 0])) ((i:Int)+1) h=.ok (.int (gI (0::xs++[0]) (i+1))) h:=by
    have:=eS (h:=h) (ns:=0::xs++[0]) (i:=(i:Int)+1) (j:=i+1) (by lia) (by simp;lia)
    simpa using this
   have t2:ixK (D.int 0::(xs.map D.int++[D.int 0])) (i:Int) h=.ok (.int (gI (0::xs++[0]) i)) h:=by
    have:=eS (h:=h) (ns:=0::xs++[0]) (i:=(i:Int)) (j:=i) (by lia) (by simp;lia)
    simpa using this
   have s1:sml ((i:Int)+1)=true:=jH (by lia) (by lia)
   have s2:sml ((xs.length:Int)+1 - (i:Int))=true:=jH (by lia) (by lia)
   simp[t1,t2,s1,s2]
   simp only[Sg] at hb'
   simp[hb'])
 simp[ed,aV,z1,z2,z3,z4,z5,q,uD]
theorem Jt {n:Nat}{h:Hh} (hn:n<30):jh [.int ((n:Int)+1)] h=.ok (.frl ((pX n).map D.int)) h:=by
 have q:=xq (c:=av asB (ao dLt (ah b_ (aa (af 1) ak)) (af 0))) (b:=aX 1 (ah ed (aa (af 1) ak))) n (fun i=>[some (.int ((n:Int)+1)),some (.frl ((pX i).map D.int))]) (fun _=>h) (fun i hi=>by
   simp[kI];lia) (fun i hi=>by
   have:=A4 (h:=h) (xs:=pX i) (by rw[kI];lia) (AL i (by lia)).2
   simp[this];rfl) (by simp[kI]) 64 (by lia)
 have z:1<=(n:Int)+1/\(n:Int)+1<=30:=by lia
 simp only[pX,NV,PZ] at q
 simp[jh,aV,z,q]
theorem gf (k:Nat) (h:Hh):∀xs ys:List Int,eqL (eqD (k+1) h) (xs.map D.int) (ys.map D.int)=some (decide (xs=ys))
 | [],[]=>rfl
 | [],y::ys=>rfl
 | x::xs,[]=>rfl
 | x::xs,y::ys=>by
  have ih:=gf k h xs ys
  have e1:eqD (k+1) h (.int x) (.int y)=some (x == y):=rfl
  simp only[NV,eqL,e1,ih]
  by_cases a:x=y<;>by_cases b:xs=ys<;>simp[a,b]
theorem Bn {h:Hh}{xs ys:List Int}:dEq (.tup (xs.map D.int)) (.tup (ys.map D.int)) h=.ok (.bl (decide (xs=ys))) h:=by
 have:eqD eqN h (.tup (xs.map D.int)) (.tup (ys.map D.int))=some (decide (xs=ys)):=gf 10 h xs ys
 simp only[dEq,this]
noncomputable def sg (f:Nat->Int) (n:Nat):Int:=((ND n).map f).sum
theorem zT (f:Nat->Int):sg f 0=0:=rfl
theorem A5 (l:List Int) (x:Int):(l++[x]).sum=l.sum+x:=by
 induction l with
 | nil=>simp
 | cons a l ih=>simp only[Sg,Sd,ih];lia
theorem nc (f:Nat->Int) (n:Nat):sg f (n+1)=sg f n+f n:=by
 unfold sg
 rw[PL,Q0]
 exact A5 _ _
theorem fA {f g:Nat->Int}:∀{n:Nat},(∀i,i<n->f i=g i)->sg f n=sg g n
 | 0,_=>rfl
 | n+1,h=>by rw[nc,nc,fA fun i hi=>h i (by lia),h n (by lia)]
theorem kJ {f:Nat->Int}{n:Nat} (h:∀i,i<n->f i=0):sg f n=0:=by
 induction n with
 | zero=>rfl
 | succ n ih=>rw[nc,ih fun i hi=>h i (by lia),h n (by lia)];rfl
theorem kh (f:Nat->Int) (p:Nat):∀q,sg f (p+q)=sg f p+sg (fun i=>f (p+i)) q
 | 0=>by simp[zT]
 | q+1=>by rw[<- S_,nc,kh f p q,nc];lia
noncomputable def lss (r:Nat) (l:Int):Int:=if (r:Int)<l then 1 else 0
noncomputable def Rn:Nat->Int->Int->Int
 | 0,_,f=>if f=0 then 1 else 0
 | m+1,l,f=>sg (fun r=>Rn m r (f - lss r l)) (m+1)
theorem wD (r:Nat) (l:Int):0<=lss r l/\lss r l<=1:=by unfold lss;split<;>lia
theorem oF:∀(m:Nat) (l f:Int),f<0->Rn m l f=0
 | 0,l,f,h=>if_neg (by lia)
 | m+1,l,f,h=>kJ fun r _=>oF m r _ (by have:=wD r l;lia)
theorem pL:∀(m:Nat) (l f:Int),(m:Int)<f->Rn m l f=0
 | 0,l,f,h=>if_neg (by lia)
 | m+1,l,f,h=>kJ fun r _=>pL m r _ (by have:=wD r l;lia)
theorem vC {f:Nat->Int}{B:Nat}:∀{n:Nat},(∀i,i<n->0<=f i/\f i<=B)->0<=sg f n/\sg f n<=(n*B:Nat)
 | 0,_=>by simp[zT]
 | n+1,h=>by
  have ih:=vC (n:=n) fun i hi=>h i (by lia)
  have:=h n (by lia)
  rw[nc,Nat.succ_mul]
  lia
noncomputable def k8:Nat->Nat
 | 0=>1
 | n+1=>(n+1)*k8 n
theorem FQ:∀(m:Nat) (l f:Int),0<=Rn m l f/\Rn m l f<=k8 m
 | 0,l,f=>by unfold Rn k8;split<;>lia
 | m+1,l,f=>vC fun r _=>FQ m r _
noncomputable def cS (m:Nat) (l:Int):List Int:=(ND (m+1)).map fun(f:Nat)=>Rn m l f
theorem fS (m:Nat) (l:Int):(cS m l).length=m+1:=by simp[cS]
theorem kD {m:Nat}{l:Int}{f:Nat} (h:f<=m):gI (cS m l) f=Rn m l f:=by
 rw[dS (by rw[fS];lia)];simp[cS]
noncomputable def c5 (m:Nat):List (List Int):=(ND (m+1)).map fun(l:Nat)=>cS m l
theorem vB (m:Nat):(c5 m).length=m+1:=by simp[c5]
noncomputable def Eb (n:Nat) (k a b:Int):Int:=if n=1 then (if k=0 then 1 else 0) else if a=b then 0 else Rn (n - 2) ((a - b - 1) % n) (k - (if b<a then 1 else 0))
noncomputable def ltI (a b:Int):Int:=if a<b then 1 else 0
theorem jJ {a n:Int} (h0:-n<=a) (h1:a<n):a % n=if 0<=a then a else a+n:=by
 split
 ·exact Int.emod_eq_of_lt (by assumption) h1
 ·have:a=(a+n)+n*(-1):=by lia
  rw[this,Int.add_mul_emod_self_left,Int.emod_eq_of_lt (by lia) (by lia)]
  lia
theorem B_ {q r s b':Nat}{a b c k K:Int} (d:(b<a/\K=k - 1/\c=a - b - 1/\(b':Int)=b)\/(a<b/\K=k/\c=a - b+(q+2)/\(b':Int)=b - 1)) (a0:0<=a) (a1:a<(q:Int)+3) (hr:r<q+2) (e:b'<r/\s+b'+1=r\/r<b'/\s+b'=r+q+1):k - lss r a - (if (b':Int)<r then 1 else 0)=K - lss s c:=by
 unfold lss
 rcases e with⟨e1,e2⟩ | ⟨e1,e2⟩
 ·rw[if_pos (show(b':Int)<r by lia)]
  rcases d with⟨d1,d2,d3,d4⟩ | ⟨d1,d2,d3,d4⟩
  ·have z:((r:Int)<a)=((s:Int)<c):=by rw[eq_iff_iff];lia
   simp only[z];lia
  ·rw[if_neg (show ¬ (r:Int)<a by lia),if_pos (show(s:Int)<c by lia)];lia
 ·rw[if_neg (show ¬ (b':Int)<r by lia)]
  rcases d with⟨d1,d2,d3,d4⟩ | ⟨d1,d2,d3,d4⟩
  ·rw[if_pos (show(r:Int)<a by lia),if_neg (show ¬ (s:Int)<c by lia)];lia
  ·have z:((r:Int)<a)=((s:Int)<c):=by rw[eq_iff_iff];lia
   simp only[z];lia
theorem F8 {q b':Nat}{g F:Nat->Int} (b'lt:b'<=q+1) (Fb:F b'=0) (term:∀r:Nat,r<q+2->∀s:Nat,(b'<r/\s+b'+1=r\/r<b'/\s+b'=r+q+1)->F r=g s):sg g (q+1)=sg F (q+1+1):=by
 have lhs:=kh g (q+1 - b') b'
 rw[show q+1 - b'+b'=q+1 by lia] at lhs
 have rhs:=kh F b' (1+(q+1 - b'))
 rw[show b'+(1+(q+1 - b'))=q+1+1 by lia,kh (fun i=>F (b'+i)) 1] at rhs
 have mid:sg (fun i=>F (b'+i)) 1=0:=by rw[nc,zT];show 0+F b'=0;rw[Fb];rfl
 have t1:sg F b'=sg (fun i=>g (q+1 - b'+i)) b':=fA fun i hi=>term i (by lia) (q+1 - b'+i) (by lia)
 have t2:sg (fun i=>F (b'+(1+i))) (q+1 - b')=sg g (q+1 - b'):=fA fun i hi=>term (b'+(1+i)) (by lia) i (by lia)
 rw[lhs,rhs,mid,t1,t2,Sz,Int.add_comm]
theorem EM {n:Nat}{k a b:Int} (hn:2<=n) (a0:0<=a) (a1:a<n) (b0:0<=b) (b1:b<n) (ne:a≠b):Eb n k a b=sg (fun r=>Eb (n - 1) (k - lss r a) r (b - ltI a b)) (n - 1):=by
 obtain⟨m,rfl⟩:∃m,n=m+2:=⟨n - 2,by lia⟩
 have e1:m+2 - 1=m+1:=rfl
 rw[e1]
 have hE:Eb (m+2) k a b=Rn m ((a - b - 1) % (m+2:Nat)) (k - (if b<a then 1 else 0)):=by
  unfold Eb;rw[if_neg (by lia),if_neg ne];rfl
 rw[hE]
 clear hE
 cases m with
 | zero=>
  have:sg (fun r=>Eb (0+1) (k - lss r a) r (b - ltI a b)) (0+1)=Eb 1 (k - lss 0 a) 0 (b - ltI a b):=by rw[nc,zT];simp
  rw[this]
  unfold Eb Rn lss
  rw[if_pos rfl]
  have:(b<a)=(((0:Nat):Int)<a):=by rw[eq_iff_iff];lia
  simp only[this]
 | succ q=>
  -- n=q+3: numbers 0 .. q+1 are left,the last one is b' among them
  obtain⟨b',c,K,e1,e2,e3,d⟩:∃(b':Nat) (c K:Int),b - ltI a b=b'/\(a - b - 1) % ((q+1+2:Nat):Int)=c/\k - (if b<a then 1 else 0)=K/\((b<a/\K=k - 1/\c=a - b - 1/\(b':Int)=b)\/(a<b/\K=k/\c=a - b+(q+2)/\(b':Int)=b - 1)):=by
   rw[jJ (by lia) (by lia)]
   unfold ltI
   by_cases h:b<a
   ·exact⟨b.toNat,a - b - 1,k - 1,by rw[if_neg (by lia)];lia,if_pos (by lia),by rw[if_pos h],.inl ⟨h,rfl,rfl,by lia⟩⟩
   ·exact⟨(b - 1).toNat,a - b+(q+2),k,by rw[if_pos (by lia)];lia,by rw[if_neg (by lia)];lia,by rw[if_neg h];lia,.inr ⟨by lia,rfl,rfl,by lia⟩⟩
  rw[e1,e2,e3]
  have a1:a<(q:Int)+3:=by lia
  have b'lt:b'<=q+1:=by lia
  clear e1 e2 e3 hn
  refine F8 b'lt ?_ fun r hr s hs=>?_
  ·unfold Eb;rw[if_neg (by lia),if_pos rfl]
  ·have L:=B_ d a0 a1 hr hs
   clear d ne b0 b1 a0 a1
   have em:((r:Int) - b' - 1) % ((q+1+1:Nat):Int)=s:=by
    rw[jJ (by lia) (by lia)]
    rcases hs with⟨h1,h2⟩ | ⟨h1,h2⟩
    ·rw[if_pos (by lia)];lia
    ·rw[if_neg (by lia)];lia
   unfold Eb
   rw[if_neg (by lia),if_neg (show ¬ (r:Int)=b' by lia),em,L];rfl
noncomputable def f1 (xs:List Int):D:=.frl (xs.map D.int)
noncomputable def f2 (xss:List (List Int)):D:=.frl (xss.map f1)
theorem Ib {l:List Int}{i j:Nat}{v:Int} (hj:j<l.length):gI (l.set i v) j=if i=j then v else gI l j:=by
 rw[dS (by simpa using hj),dS hj,List.getElem_set]
theorem Kz {xs ys:List Int} (h:xs.length=ys.length) (e:∀i,i<xs.length->gI xs i=gI ys i):xs=ys:=by
 refine QM h fun i h1 h2=>?_
 have:=e i h1
 rwa [dS h1,dS h2] at this
theorem G5 {n:Nat}{ns:List Int}{i:Int}{j:Nat}{h:Hh} (e:aH h n=some (ns.map D.int)) (hi:i=(j:Int)) (hj:j<ns.length):C4 (.ref n) (.int i) h=.ok (.int (gI ns j)) h:=by
 have:=eS (ns:=ns) (h:=h) hi hj
 delta C4;dsimp only;rw[mG e];exact this
theorem EG (L:List (List Int)):gB (L.map f1)=(ND L.length).map fun(i:Nat)=>D.tup [.int i,f1 (L.getD i [])]:=by
 unfold gB
 rw[NJ]
 refine Ow fun i hi=>?_
 have hi:=N3.mp hi
 simp[hi]
noncomputable def RIB:MS:=(tF (af 2) (ao (cH aF) (af 6) (af 5)) (af 7))
noncomputable def ROB:MS:=(ay (aX 5 (cIf (av asB (ao dLt (af 3) (af 1))) (cC (.int 1)) (cC (.int 0)))) (eN (mx (af 4)) (gT2 6 7) RIB))
theorem J4:cT=fun ds h=>((bR 8 (ay (aX 2 (ao (mT qu) (ah (eX aF) (aa (cC (.int 0)) ak)) (ao (cH aF) (ah b_ (aa (af 0) ak)) (cC (.int 1))))) (ay (eN (mx (af 0)) (gT2 3 4) ROB) (aM (af 2))))) ds h).bind (eC h):=rfl
theorem C6 {m i:Nat}{l:Int}{c:List Int}{h:Hh}{d0 d1 d3 d4 y6 y7:Option D} (hc:c.length=m+2) (hi:i<=m) (hm:m<=20):∃c' y6' y7',c'.length=m+2/\(∀f,f<m+2->gI c' f=gI c f+Rn m i ((f:Int) - lss i l))/\eM (gT2 6 7) RIB (gB ((cS m i).map D.int)) [d0,d1,some (.ref h.length),d3,d4,some (.int (lss i l)),y6,y7] (h++[.lst (c.map D.int)])=.ok (.nx [d0,d1,some (.ref h.length),d3,d4,some (.int (lss i l)),y6',y7']) (h++[.lst (c'.map D.int)]):=by
 have l01:=wD i l
 obtain⟨t,ht⟩:∃t:Nat,lss i l=(t:Int):=⟨(lss i l).toNat,by lia⟩
 have t1:t<=1:=by lia
 rw[ht,AA,fS]
 obtain⟨q,q2⟩:=yW (σ:=List Int × Option D × Option D) (tg:=gT2 6 7) (body:=RIB) (fun(j:Nat)=>D.tup [.int j,.int (gI (cS m i) j)]) (m+1) (fun s=>[d0,d1,some (.ref h.length),d3,d4,some (.int t),s.2.1,s.2.2]) (fun s=>h++[.lst (s.1.map D.int)]) (fun s j=>(s.1.set (j+t) (gI s.1 (j+t)+gI (cS m i) j),some (.int j),some (.int (gI (cS m i) j))))
  (fun j s=>s.1.length=m+2/\∀f,f<m+2->gI s.1 f=gI c f+if (f:Int) - t<j then Rn m i ((f:Int) - t) else 0) (c,y6,y7) ⟨hc,fun f hf=>by
   by_cases z:(f:Int) - t<((0:Nat):Int)
   ·rw[if_pos z,oF _ _ _ (by lia)];simp
   ·rw[if_neg z];simp⟩ (fun j s hj ⟨sl,sv⟩=>by
   refine⟨⟨by simp[sl],fun f hf=>?_⟩,.inl ?_⟩
   ·dsimp only
    rw[Ib (by lia)]
    by_cases e:j+t=f
    ·subst e
     rw[if_pos rfl,sv _ hf,kD (by lia),if_neg (by lia),if_pos (by lia),show(((j+t:Nat):Int)) - t=j by lia]
     lia
    ·rw[if_neg e,sv f hf]
     by_cases z:(f:Int) - t<j
     ·rw[if_pos z,if_pos (by lia)]
     ·rw[if_neg z,if_neg (by lia)]
   ·have ij:(j:Int)+(t:Int)=((j+t:Nat):Int):=by lia
    have x1:=G5 (n:=h.length) (ns:=s.1) (i:=((j+t:Nat):Int)) (j:=j+t) (h:=h++[.lst (s.1.map D.int)]) f7 rfl (by lia)
    have n2:ixN (s.1.map D.int).length ((j+t:Nat):Int)=some (j+t):=by rw[NJ];exact E5 rfl (by lia)
    have st:iQ (.ref h.length) (.int ((j+t:Nat):Int)) (.int (gI s.1 (j+t)+gI (cS m i) j)) (h++[.lst (s.1.map D.int)])=.ok () (h++[.lst ((s.1.set (j+t) (gI s.1 (j+t)+gI (cS m i) j)).map D.int)]):=by
     rw[nF f7 n2,tT,List.map_set]
    generalize gI (cS m i) j=v at *
    generalize ((j+t:Nat):Int)=w at *
    generalize j+t=w' at *
    simp[RIB,ij,x1,st])
 obtain⟨sl,sv⟩:=q2
 exact⟨_,_,_,sl,fun f hf=>by
  rw[sv f hf]
  by_cases z:(f:Int) - t<((m+1:Nat):Int)
  ·rw[if_pos z]
  ·rw[if_neg z,pL _ _ _ (by lia)],q⟩
theorem EI {m:Nat}{l:Int}{h:Hh} (hm:m<=20) (w:Wf h):cT [f2 (c5 m),.int l] h=.ok (f1 (cS (m+1) l)) h:=by
 have key:∀(j i:Nat) (c:List Int) (y3 y4 y5 y6 y7:Option D),i+j=m+1->c.length=m+2->(∀f,f<m+2->gI c f=sg (fun r=>Rn m r ((f:Int) - lss r l)) i)->∃c' z3 z4 z5 z6 z7,c'.length=m+2/\(∀f,f<m+2->gI c' f=sg (fun r=>Rn m r ((f:Int) - lss r l)) (m+1)) ∧
   eM (gT2 3 4) ROB ((RD i j).map fun(i:Nat)=>D.tup [.int i,f1 (cS m i)]) [some (f2 (c5 m)),some (.int l),some (.ref h.length),y3,y4,y5,y6,y7] (h++[.lst (c.map D.int)])=.ok (.nx [some (f2 (c5 m)),some (.int l),some (.ref h.length),z3,z4,z5,z6,z7]) (h++[.lst (c'.map D.int)]):=by
  intro j
  induction j with
  | zero=>
   intro i c y3 y4 y5 y6 y7 e hc hv
   have:i=m+1:=by lia
   subst this
   exact⟨c,y3,y4,y5,y6,y7,hc,hv,rfl⟩
  | succ j ih=>
   intro i c y3 y4 y5 y6 y7 e hc hv
   obtain⟨c1,z6,z7,l1,v1,q1⟩:=C6 (m:=m) (i:=i) (l:=l) (c:=c) (h:=h) (d0:=some (f2 (c5 m))) (d1:=some (.int l)) (d3:=some (.int i)) (d4:=some (f1 (cS m i))) (y6:=y6) (y7:=y7) hc (by lia) hm
   obtain⟨c',w3,w4,w5,w6,w7,lc,vc,qc⟩:=ih (i+1) c1 (some (.int i)) (some (f1 (cS m i))) (some (.int (lss i l))) z6 z7 (by lia) l1 (fun f hf=>by rw[v1 f hf,hv f hf,nc])
   refine⟨c',w3,w4,w5,w6,w7,lc,vc,?_⟩
   rw[List.range'_succ,NV,jB]
   have b:ROB [some (f2 (c5 m)),some (.int l),some (.ref h.length),some (.int i),some (f1 (cS m i)),y5,y6,y7] (h++[.lst (c.map D.int)])=.ok (.nx [some (f2 (c5 m)),some (.int l),some (.ref h.length),some (.int i),some (f1 (cS m i)),some (.int (lss i l)),z6,z7]) (h++[.lst (c1.map D.int)]):=by
    have eE:uw (f1 (cS m i)) (h++[.lst (c.map D.int)])=.ok (.snap (gB ((cS m i).map D.int))) (h++[.lst (c.map D.int)]):=rfl
    by_cases z:(i:Int)<l
    ·have le:lss i l=1:=if_pos z
     rw[le] at q1 ⊢
     simp[ROB,z,eE,q1]
    ·have le:lss i l=0:=if_neg z
     rw[le] at q1 ⊢
     simp[ROB,z,eE,q1]
   simp[b,qc]
 obtain⟨c',z3,z4,z5,z6,z7,lc,vc,q⟩:=key (m+1) 0 (N1 (m+2) 0) none none none none none (by lia) (by simp) (fun f hf=>by rw[zT,dS (by simpa using hf)];simp)
 have ce:c'=cS (m+1) l:=Kz (by rw[lc,fS]) fun f hf=>by
  rw[lc] at hf
  rw[vc f hf,kD (by lia)];rfl
 subst ce
 have en:uw (f2 (c5 m)) (h++[.lst (N1 (m+2) (.int 0))])=.ok (.snap ((RD 0 (m+1)).map fun(i:Nat)=>D.tup [.int i,f1 (cS m i)])) (h++[.lst (N1 (m+2) (.int 0))]):=by
  show R.ok (Src.snap (gB ((c5 m).map f1))) _=_
  rw[EG,vB,<- Pt]
  congr 2
  refine Ow fun i hi=>?_
  have hi:=N3.mp hi
  simp[c5,hi]
 have ex:=l6 (h:=h) (ds:=(cS (m+1) l).map D.int) (t:=[]) w (by simp[deep])
 have ll:b_ [f2 (c5 m)] h=.ok (.int ((m+1:Nat):Int)) h:=by
  show R.ok (D.int (((c5 m).map f1).length:Int)) h=_
  rw[NJ,vB]
 have z1:(((m+1:Nat):Int)+1).toNat=m+2:=by lia
 have z2:m+2<=1000000:=by lia
 have z3:(((m+1:Nat):Int)+1).natAbs<=1000000:=by lia
 have z4:1<=(((m+1:Nat):Int)+1):=by lia
 rw[List.map_replicate] at q
 rw[J4]
 generalize f2 (c5 m)=FT at *
 show _=R.ok (D.frl ((cS (m+1) l).map D.int)) h
 generalize (cS (m+1) l).map D.int=W at *
 simp[-RI,aV,ll,z1,z2,z3,z4,en,q,ex]
noncomputable def rsD (k:Nat):List D:=(ND (k+1)).map fun j=>f2 (c5 j)
theorem Kc (k:Nat):rsD (k+1)=rsD k++[f2 (c5 (k+1))]:=by simp[rsD,PL]
theorem nI (k:Nat):(rsD k).length=k+1:=by simp[rsD]
theorem Cf {k j:Nat}{i:Int}{h:Hh} (e:i=(j:Int)) (hj:j<=k):ixK (rsD k) i h=.ok (f2 (c5 j)) h:=iK e (by rw[rsD,NU,Pj (by lia)];rfl)
theorem Et {k:Nat}{h:Hh}:ixK (rsD k) (-1) h=.ok (f2 (c5 k)) h:=by
 have e:ixN (rsD k).length (-1)=some k:=by rw[nI];unfold ixN;simp;lia
 unfold ixK atI
 rw[e]
 have:(rsD k)[k]?=some (f2 (c5 k)):=by simp[rsD]
 simp[this]
noncomputable def RSB:MS:=(dA (lI fM (af 1) (aa (bT aF (dn eD (aa (ao (cH aF) (af 2) (cC (.int 1))) ak)) [1] tt1 (ah cT (aa (ao dIx (af 1) (cUn h8 (cC (.int 1)))) (aa (af 0) ak)))) ak)))
theorem K0:cD=fun ds h=>((bR 3 (ay (aX 1 (ah (eX qu) (aa (ah (eX aF) (aa (ah (eX aF) (aa (cC (.int 1)) ak)) ak)) ak))) (ay (eN (dn qt (aa (cC (.int 1)) (aa (ao (cH aF) (af 0) (cC (.int 1))) ak))) (gN 2) RSB) (aM (af 1))))) ds h).bind (eC h):=rfl
theorem k7 {n:Nat}{h:Hh} (hn:n<=12) (w:Wf h):cD [.int n] h=.ok (.frl (rsD n)) h:=by
 have low:∀k j,cf j (rsD k)=true:=fun k j=>jD fun d hd=>by
  obtain⟨i,_,rfl⟩:=Oi.mp hd
  show cf j ((c5 i).map f1)=true
  exact rl fun b=>by show cf j (b.map D.int)=true;exact ko
 obtain⟨q,e⟩:=BY (σ:=Nat × Option D) (tg:=gN 2) (body:=RSB) 1 n (fun s=>[some (.int n),some (.ref h.length),s.2]) (fun s=>h++[.lst (rsD s.1)]) (fun s i=>(i+1,some (.int (1+i)))) (fun i s=>s.1=i) (0,none) rfl (fun i s hi hs=>⟨rfl,.inl (by
   subst hs
   obtain⟨i,y⟩:=s
   dsimp only at hi ⊢
   have c:cx tt1 (ah cT (aa (ao dIx (af 1) (cUn h8 (cC (.int 1)))) (aa (af 0) ak))) (fun x=>[some x,some (.ref h.length)]) (cX 0 (i+2)) (h++[.lst (rsD i)])=.ok ((c5 (i+1)).map f1) (h++[.lst (rsD i)]):=by
    have w2:Wf (h++[.lst (rsD i)]):=w.app (by show cf _ _=true;exact low i _)
    rw[fG (fun j=>f1 (cS (i+1) j)) (fun j hj=>by
     have r:=EI (m:=i) (l:=(j:Int)) (h:=h++[.lst (rsD i)]) (by lia) w2
     simp[Et,r]),c5,ON]
    rfl
   have z1:(1+(i:Int)+1).natAbs<=1000000:=by lia
   have z2:(1+(i:Int)+1).toNat=i+2:=by lia
   have z3:i+2<=1000000:=by lia
   have z4:(rsD i).length<1000000:=by rw[nI];lia
   rw[Kc]
   show _=R.ok (Fl.nx [some (.int n),some (.ref h.length),some (.int (1+i))]) (h++[.lst (rsD i++[.frl ((c5 (i+1)).map f1)])])
   generalize (c5 (i+1)).map f1=W at *
   generalize rsD i=V at *
   simp[RSB,z1,z2,z3,z4,c])⟩)
 generalize TH _ _ _=s9 at q e
 obtain⟨i9,y9⟩:=s9
 dsimp only at q e
 subst e
 have dp:(rsD i9).all (deep 7)=true:=by
  rw[NZ]
  intro d hd
  obtain⟨j,_,rfl⟩:=Oi.mp hd
  simp[f2,f1,deep,NZ]
 have ex:=l6 (h:=h) (ds:=rsD i9) (t:=[]) w dp
 have r0:rsD 0=[.frl [.frl [.int 1]]]:=rfl
 rw[r0] at q
 have z1:(i9:Int)+1 - 1=i9:=by lia
 have z2:i9<=1000000:=by lia
 have z3:((i9:Int)+1).natAbs<=1000000:=by lia
 rw[K0]
 generalize rsD i9=V at *
 simp[aV,z1,z2,z3,q,ex]
structure Beg (n:Nat) (xs:List Int):Prop where
 len:xs.length<=n
 nd:xs.Nodup
 lo:∀x∈xs,0<=x
 hi:∀x∈xs,x<n
theorem Beg.nil (n:Nat):Beg n []:=⟨OU _,List.nodup_nil,fun _ h=>(nomatch h),fun _ h=>(nomatch h)⟩
theorem Ord.beg {n:Nat}{xs:List Int} (o:Ord n xs):Beg n xs:=⟨Th o.len,o.nd,o.lo,o.hi⟩
theorem Beg.take {n:Nat}{xs:List Int} (o:Beg n xs) (k:Nat):Beg n (xs.take k):=
 ⟨N4 (by rw[Oa];exact Nat.min_le_right _ _) o.len,o.nd.sublist (RZ _ _),fun x hx=>o.lo x (P7 hx),fun x hx=>o.hi x (P7 hx)⟩
noncomputable def gr (r:Int->Bool) (l:List Int):Nat:=(l.filter r).length
theorem hV (r:Int->Bool) (x:Int) (l:List Int):gr r (x::l)=(if r x=true then 1 else 0)+gr r l:=by
 unfold gr;rw[OP];split<;>simp[Nat.add_comm]
theorem CC (r:Int->Bool) (v:Int):∀l:List Int,gr (fun x=>r x&&decide (x<v+1)) l=gr (fun x=>r x&&decide (x<v)) l+gr (fun x=>r x&&decide (x=v)) l
 | []=>rfl
 | x::l=>by
  rw[hV,hV,hV,CC r v l]
  cases h:r x<;>simp
  by_cases a:x<v
  ·have b:x<v+1:=by lia
   have c:¬ x=v:=by lia
   simp[a,b,c];lia
  ·by_cases c:x=v
   ·subst c
    have b:x<x+1:=by lia
    simp[b];lia
   ·have b:¬ x<v+1:=by lia
    simp[a,b,c]
theorem xC {r:Int->Bool}:∀{l:List Int},(∀x∈l,r x=false)->gr r l=0
 | [],_=>rfl
 | x::l,h=>by rw[hV,h x NG,xC fun y hy=>h y (ox _ hy)];rfl
theorem wX {r:Int->Bool}{v:Int}:∀{l:List Int},l.Nodup->gr (fun x=>r x&&decide (x=v)) l=if v∈l/\r v=true then 1 else 0
 | [],_=>by simp[gr]
 | x::l,nd=>by
  obtain⟨n1,n2⟩:=Pp.mp nd
  rw[hV,wX n2]
  by_cases c:x=v
  ·subst c
   cases h:r x<;>simp[n1,h]
  ·have c':¬ v=x:=fun z=>c z.symm
   simp[c,c']
theorem nG {n:Nat}{xs:List Int} (b:Beg n xs):∀v:Nat,v<=n->gr (fun x=>!(xs.any (· == x))&&decide (x<(v:Int))) (gi 0 n)+gr (fun x=>true&&decide (x<(v:Int))) xs=v
 | 0,_=>by
  rw[xC,xC]
  ·intro x hx;have:=b.lo x hx;simp;lia
  ·intro x hx;have:=(jk n).lo x hx;simp;lia
 | v+1,hv=>by
  have ih:=nG b v (by lia)
  have e:((v+1:Nat):Int)=(v:Int)+1:=by lia
  rw[e,CC,CC,wX (jk n).nd,wX b.nd]
  have m:(v:Int)∈gi 0 n:=Oi.mpr ⟨v,N3.mpr (by lia),by lia⟩
  by_cases c:(v:Int)∈xs
  ·have a:xs.any (· == (v:Int))=true:=PY.mpr ⟨_,c,by simp⟩
   simp only[m,a,c,Bool.not_true,and_true,RM,and_false,if_false,if_true]
   lia
  ·have a:xs.any (· == (v:Int))=false:=by
    rw[Rb];intro x hx z;exact c (beq_iff_eq.mp z ▸ hx)
   simp only[m,a,c,Bool.not_false,and_self,if_true,false_and,if_false]
   lia
noncomputable def aR (xs:List Int):Int:=gI xs (xs.length - 1)
noncomputable def lwI (xs:List Int):Int:=if xs.length=0 then 0 else aR xs - ((xs.filter fun x=>decide (x<aR xs)).length:Int)
noncomputable def aI (n:Nat) (xs:List Int):List Int:=(gi 0 n).filter fun x=>!(xs.any (· == x))
theorem yB {xs:List Int} (h:xs.length≠0):aR xs∈xs:=by
 unfold aR;rw[dS (by lia)];exact Qp _
theorem eO {n:Nat}{xs:List Int} (b:Beg n xs):(aI n xs).length=n - xs.length:=by
 have:=nG b n (NC _)
 have e1:gr (fun x=>!(xs.any (· == x))&&decide (x<(n:Int))) (gi 0 n)=(aI n xs).length:=by
  unfold gr aI
  rw[PC]
  intro x hx;have:=(jk n).hi x hx;simp[this]
 have e2:gr (fun x=>true&&decide (x<(n:Int))) xs=xs.length:=by
  unfold gr
  rw[Pk.mpr]
  intro x hx;have:=b.hi x hx;simp[this]
 lia
theorem h_ {n:Nat}{xs:List Int} (b:Beg n xs) (h:xs.length≠0):(((aI n xs).filter fun x=>decide (x<aR xs)).length:Int)=lwI xs:=by
 have m:=yB h
 have h0:=b.lo _ m
 have h1:=b.hi _ m
 have:=nG b (aR xs).toNat (by lia)
 rw[show(((aR xs).toNat:Nat):Int)=aR xs by lia] at this
 have e1:gr (fun x=>!(xs.any (· == x))&&decide (x<aR xs)) (gi 0 n)=((aI n xs).filter fun x=>decide (x<aR xs)).length:=by
  unfold gr aI
  rw[Pq]
  congr 2
  funext x
  exact Se _ _
 have e2:gr (fun x=>true&&decide (x<aR xs)) xs=(xs.filter fun x=>decide (x<aR xs)).length:=by
  unfold gr;simp
 unfold lwI
 rw[if_neg h]
 lia
theorem FG {n:Nat}{xs:List Int} (b:Beg n xs):0<=lwI xs/\lwI xs<=((n - xs.length:Nat):Int):=by
 by_cases h:xs.length=0
 ·unfold lwI;rw[if_pos h];lia
 ·rw[<- h_ b h,<- eO b]
  have:=O_ (fun x=>decide (x<aR xs)) (aI n xs)
  lia
theorem Beg.snoc {n:Nat}{xs:List Int}{x:Int} (b:Beg n xs) (h:x∈aI n xs):Beg n (xs++[x]):=by
 obtain⟨h1,h2⟩:=OA.mp h
 have nx:x∉xs:=fun z=>by
  have:xs.any (· == x)=true:=PY.mpr ⟨_,z,by simp⟩
  rw[this] at h2;cases h2
 have l:=eO b
 have lp:=List.length_pos_of_mem h
 refine⟨by rw[N2];show xs.length+1<=n;lia,List.nodup_append.mpr ⟨b.nd,Pp.mpr ⟨by simp,List.nodup_nil⟩,fun a ha c hc=>?_⟩,fun y hy=>?_,fun y hy=>?_⟩
 ·simp at hc;subst hc;exact fun z=>nx (z ▸ ha)
 ·rcases Oe.mp hy with z | z
  ·exact b.lo y z
  ·simp at z;subst z;exact(jk n).lo _ h1
 ·rcases Oe.mp hy with z | z
  ·exact b.hi y z
  ·simp at z;subst z;exact(jk n).hi _ h1
theorem nU {xs:List Int}{h:Hh} (h1:xs.length≠0):ixK (xs.map D.int) (-1) h=.ok (.int (aR xs)) h:=by
 have e:ixN (xs.map D.int).length (-1)=some (xs.length - 1):=by rw[NJ];unfold ixN;simp;lia
 unfold ixK atI aR
 rw[e]
 simp[NM (show xs.length - 1<xs.length by lia),dS (show xs.length - 1<xs.length by lia)]
theorem Cq {xs:List Int}{h:Hh} (hl:xs.length<=1000):bY [.tup (xs.map D.int)] h=.ok (.int (lwI xs)) h:=by
 unfold lwI
 by_cases c:xs.length=0
 ·have:xs=[]:=O2 c
  subst this
  simp[bY,aV]
 ·rw[if_neg c]
  have c':¬ (xs.length:Int)=0:=by lia
  have ix:=fun H:Hh=>nU (h:=H) c
  have q:cx (av asB (ao dLt (af 0) (ao dIx (af 1) (cUn h8 (cC (.int 1)))))) (af 0) (fun x=>[some x,some (.tup (xs.map D.int))]) (xs.map D.int) h=.ok ((xs.filter fun x=>decide (x<aR xs)).map D.int) h:=
   comp_map D.int (fun x=>decide (x<aR xs)) D.int xs fun x hx=>⟨by simp[ix],fun _=>by simp⟩
  have c0:¬ xs=[]:=fun z=>c (by rw[z];rfl)
  have z6:xs.length<=1000000:=by lia
  simp[bY,aV,c,c',c0,ix,q,z6]
theorem jf {xs:List Int}{h:Hh} (hl:xs.length<=1000):bU [.tup (xs.map D.int)] h=.ok (.tup ((aY xs).map D.int)) h:=by
 by_cases c:xs.length=0
 ·have:xs=[]:=O2 c
  subst this
  kernel_rfl
 ·have z1:((xs.length:Int) - 1).natAbs<=1000000:=by lia
  have z2:((xs.length:Int) - 1).toNat=xs.length - 1:=by lia
  have z3:xs.length - 1<=1000000:=by lia
  have q:=z_ (xs:=xs) (h:=h) (d:=.tup (xs.map D.int)) (fun i=>K6)
  simp[bU,aV,z1,z2,z3,q]
noncomputable def tpl (xs:List Int):D:=.tup (xs.map D.int)
theorem Ax {n:Nat}{xs:List Int}{h:Hh} (hl:xs.length<=1000):cx (av asB (ao (dIn true) (af 0) (af 1))) (ao (cH aF) (af 1) (ah gG (aa (af 0) ak))) (fun x=>[some x,some (.tup (xs.map D.int))]) (cX 0 n) h=.ok ((aI n xs).map fun x=>tpl (xs++[x])) h:=by
 rw[Fq,comp_map D.int (fun x=>!(xs.any (· == x))) (fun x=>tpl (xs++[x])) (gi 0 n) fun x hx=>⟨by simp,fun _=>by
  have z:xs.length+1<=1000000:=by lia
  simp[tpl,z]⟩]
 rfl
theorem nA {σ:Type}{tg:D->En->Hh->R En}{body:MS} (enc:Nat->D) (N:Nat) (E:σ->En) (G:σ->Hh) (I:Nat->σ->Prop)
  (st:∀i s,i<N->I i s->∃s',I (i+1) s'/\(tg (enc i) (E s) (G s)).bind body=.ok (.nx (E s')) (G s')) :
  ∀(k i:Nat) (s:σ),i+k=N->I i s->∃s',eM tg body ((RD i k).map enc) (E s) (G s)=.ok (.nx (E s')) (G s')/\I N s':=by
 intro k
 induction k with
 | zero=>
  intro i s e hi
  have:i=N:=by lia
  subst this
  exact⟨s,rfl,hi⟩
 | succ k ih=>
  intro i s e hi
  obtain⟨s1,a,b⟩:=st i s (by lia) hi
  obtain⟨s2,c,d⟩:=ih (i+1) s1 (by lia) a
  refine⟨s2,?_,d⟩
  rw[List.range'_succ,NV,eM,<- cL,b]
  exact c
theorem oB {v:Int}:∀{L:List Int},L.Pairwise (· < ·)->∀(r:Nat) (hr:r<L.length),L[r]<v↔r<(L.filter fun x=>decide (x<v)).length
 | [],_,r,hr=>by simp at hr
 | a::L,so,r,hr=>by
  obtain⟨h1,h2⟩:=Ou.mp so
  by_cases c:a<v
  ·rw[OP,if_pos (by simpa using c),OO]
   cases r with
   | zero=>simp[c]
   | succ r=>
    have:=oB (v:=v) h2 r (by simpa using hr)
    simp only[List.getElem_cons_succ]
    lia
  ·have e:(a::L).filter (fun x=>decide (x<v))=[]:=by
    rw[Ra]
    intro x hx
    rcases NQ.mp hx with rfl | hx
    ·simpa using c
    ·have:=h1 x hx;simp;lia
   rw[e]
   have:¬ (a::L)[r]<v:=by
    have hm:=Qp hr
    rcases NQ.mp hm with z | z
    ·rw[z];exact c
    ·have:=h1 _ z;lia
   simp[this]
theorem yH {L:List Int} (so:L.Pairwise (· < ·)) (r:Nat) (hr:r<L.length):(L.filter fun x=>decide (x<L[r])).length=r:=by
 have h:=fun s hs=>oB (v:=L[r]) so s hs
 have lt:∀s (hs:s<L.length),L[s]<L[r]↔s<r:=fun s hs=>by
  constructor
  ·intro z
   by_cases c:s<r
   ·exact c
   ·by_cases e:s=r
    ·subst e;lia
    ·have:=NX.mp so r s hr hs (by lia);lia
  ·intro z;exact NX.mp so s r hs hr z
 generalize (L.filter fun x=>decide (x<L[r])).length=c at h
 by_cases c1:c<r
 ·have:=(h c (by lia)).mp ((lt c (by lia)).mpr c1);lia
 ·by_cases c2:r<c
  ·have:=(lt r hr).mp ((h r hr).mpr c2);lia
  ·lia
theorem Cv {L l1 l2:List Int}{x:Int} (so:L.Pairwise (· < ·)) (e:L=l1++x::l2):(L.filter fun y=>decide (y<x))=l1:=by
 subst e
 rw[N9,Ou] at so
 rw[Q4,Pk.mpr,Ra.mpr,P9]
 ·intro y hy
  rcases NQ.mp hy with rfl | hy
  ·simp
  ·have:=so.2.1.1 y hy;simp;lia
 ·intro y hy
  have:=so.2.2 y hy x NG;simp;lia
theorem Jc (n:Nat):(gi 0 n).Pairwise (· < ·):=by
 unfold gi
 rw[OT]
 exact Sa.imp (fun{a b} h=>by lia) Q_
theorem jK (n:Nat) (xs:List Int):(aI n xs).Pairwise (· < ·):=(Jc n).filter _
theorem rG {n:Nat}{xs:List Int}{x:Int}:aI n (xs++[x])=(aI n xs).filter fun y=>!(x == y):=by
 unfold aI
 rw[Pq]
 refine PC fun y _=>?_
 rw[List.any_append,Bool.not_or,Se]
 simp
theorem ik {xs ys:List Int}{i:Nat} (h:i<xs.length):gI (xs++ys) i=gI xs i:=by
 rw[dS (by simp;lia),dS h,List.getElem_append_left h]
theorem xG {xs:List Int}{x:Int}:gI (xs++[x]) xs.length=x:=by
 rw[dS (by simp),List.getElem_append_right (NC _)];simp
theorem rB {xs:List Int}{x:Int}:aR (xs++[x])=x:=by
 unfold aR;rw[N2];exact xG
theorem wM {xs:List Int}{x:Int}:(aY (xs++[x])).length=(aY xs).length+(if xs.length≠0/\x<aR xs then 1 else 0):=by
 unfold aY sA
 rw[NJ,NJ,N2]
 show((ND xs.length).filter _).length=_
 cases hl:xs.length with
 | zero=>simp
 | succ m=>
  rw[PL,Q4,N2,show m+1 - 1=m from rfl]
  congr 1
  ·congr 1
   refine PC fun i hi=>?_
   have hi:=N3.mp hi
   rw[ik (by lia),ik (by lia)]
  ·have e1:gI (xs++[x]) (m+1)=x:=by rw[<- hl];exact xG
   have e2:gI (xs++[x]) m=aR xs:=by unfold aR;rw[ik (by lia),hl];rfl
   rw[OP,e1,e2]
   by_cases c:x<aR xs<;>simp[c]
structure Cnt (n:Nat) (B:List Int->Int):Prop where
 pos:∀xs,Beg n xs->0<=B xs
 sum:∀xs,Beg n xs->xs.length<n->B xs=((aI n xs).map fun x=>B (xs++[x])).sum
theorem t6 {α:Type} (L:List Int) (f:Int->α):L.map f=(ND L.length).map fun i=>f (gI L i):=by
 refine QM (by simp) fun i h1 h2=>?_
 rw[NJ] at h1
 simp[dS h1]
noncomputable def nxB (n:Nat) (B:List Int->Int) (xs:List Int):List Int:=(aI n xs).filter fun x=>decide (0<B (xs++[x]))
noncomputable def i5 (B:List Int->Int) (xs l:List Int):Int:=(l.map fun x=>B (xs++[x])).sum
theorem fQ {B:List Int->Int}{xs l:List Int}{x:Int}:i5 B xs (x::l)=B (xs++[x])+i5 B xs l:=by unfold i5;rw[NV,Sd]
theorem zC {B:List Int->Int}{xs:List Int}:∀{l:List Int},(∀x∈l,0<=B (xs++[x]))->0<=i5 B xs l
 | [],_=>P2 _
 | x::l,h=>by
  rw[fQ]
  have:=h x NG
  have:=zC (l:=l) fun y hy=>h y (ox _ hy)
  lia
theorem sQ {B:List Int->Int}{xs:List Int}{p:Int->Bool}:∀{l:List Int},(∀x∈l,0<=B (xs++[x]))->i5 B xs ((l.filter fun x=>decide (0<B (xs++[x]))).filter p)=i5 B xs (l.filter p)
 | [],_=>rfl
 | x::l,h=>by
  have h0:=h x NG
  have ih:=sQ (p:=p) (l:=l) fun y hy=>h y (ox _ hy)
  by_cases c:0<B (xs++[x])
  ·rw[OP,if_pos (by simpa using c),OP,OP]
   split
   ·rw[fQ,fQ,ih]
   ·exact ih
  ·rw[OP,if_neg (by simpa using c),OP,ih]
   split
   ·rw[fQ];lia
   ·rfl
section
variable {n:Nat}{B:List Int->Int} (C:Cnt n B)
include C
theorem Cnt.left {xs:List Int} (b:Beg n xs):∀x∈aI n xs,0<=B (xs++[x]):=fun x hx=>C.pos _ (b.snoc hx)
theorem Cnt.nx {xs:List Int} (b:Beg n xs) (hl:xs.length<n):i5 B xs (nxB n B xs)=B xs:=by
 rw[C.sum xs b hl]
 have:=sQ (B:=B) (xs:=xs) (p:=fun _=>true) (C.left b)
 have e:∀l:List Int,l.filter (fun _=>true)=l:=fun l=>Pk.mpr (by simp)
 rw[e,e] at this
 exact this
end
theorem FK {n:Nat}{B:List Int->Int}{xs:List Int}:(nxB n B xs).Pairwise (· < ·):=(jK n xs).filter _
theorem gJ {n:Nat}{B:List Int->Int}{xs:List Int}{x:Int} (h:x∈nxB n B xs):x∈aI n xs:=(OA.mp h).1
noncomputable def kx (B:List Int->Int) (xs:List Int):List Int->Int->Option (Int × Int)
 | [],_=>none
 | x::r,t=>if t<B (xs++[x]) then some (x,t) else kx B xs r (t - B (xs++[x]))
theorem ny {B:List Int->Int}{xs:List Int}:∀{l:List Int}{t:Int},0<=t->t<i5 B xs l->∃x t' l1 l2,l=l1++x::l2/\kx B xs l t=some (x,t')/\t'=t - i5 B xs l1/\0<=t'/\t'<B (xs++[x])
 | [],t,h0,h1=>by simp[i5] at h1;lia
 | x::l,t,h0,h1=>by
  rw[fQ] at h1
  by_cases c:t<B (xs++[x])
  ·exact⟨x,t,[],l,rfl,by unfold kx;rw[if_pos c],by simp[i5],h0,c⟩
  ·obtain⟨y,t',l1,l2,e1,e2,e3,e4,e5⟩:=ny (B:=B) (xs:=xs) (l:=l) (t:=t - B (xs++[x])) (by lia) (by lia)
   exact⟨y,t',x::l1,l2,by rw[e1];rfl,by unfold kx;rw[if_neg c];exact e2,by rw[fQ];lia,e4,e5⟩
noncomputable def grd (n:Nat) (B:List Int->Int):Nat->List Int->Int->List Int × Int
 | 0,xs,t=>(xs,t)
 | j+1,xs,t=>match kx B xs (nxB n B xs) t with
  | some (x,t')=>grd n B j (xs++[x]) t'
  | none=>(xs,t)
noncomputable def rkL (n:Nat) (B:List Int->Int):List Int->List Int->Int
 | _,[]=>0
 | xs,y::r=>i5 B xs ((aI n xs).filter fun x=>decide (x<y))+rkL n B (xs++[y]) r
theorem BR {n:Nat}{B:List Int->Int} (C:Cnt n B):∀(j:Nat) (xs:List Int) (t:Int),Beg n xs->xs.length+j=n->0<=t->t<B xs →
  ∃rest t',grd n B j xs t=(xs++rest,t')/\rest.length=j/\Beg n (xs++rest)/\0<=t'/\t'<B (xs++rest)/\rkL n B xs rest=t - t'
 | 0,xs,t,b,hl,h0,h1=>⟨[],t,by simp[grd],rfl,by simpa using b,h0,by simpa using h1,by simp[rkL]⟩
 | j+1,xs,t,b,hl,h0,h1=>by
  rw[<- C.nx b (by lia)] at h1
  obtain⟨x,t',l1,l2,e1,e2,e3,e4,e5⟩:=ny h0 h1
  have xin:x∈nxB n B xs:=by rw[e1];simp
  have b2:=b.snoc (gJ xin)
  obtain⟨rest,t2,g1,g2,g3,g4,g5,g6⟩:=BR C j (xs++[x]) t' b2 (by simp;lia) e4 e5
  rw[Oj] at g1 g3 g5
  refine⟨x::rest,t2,?_,by simp[g2],g3,g4,g5,?_⟩
  ·unfold grd;rw[e2];exact g1
  ·unfold rkL
   rw[g6,<- sQ (C.left b)]
   have:=Cv (FK (n:=n) (B:=B) (xs:=xs)) e1
   rw[show((aI n xs).filter fun x=>decide (0<B (xs++[x])))=nxB n B xs from rfl,this]
   lia
noncomputable def i3 (n:Nat) (B:List Int->Int) (C:D):Prop:=∃x ds np m,C=.clo x ds/\jM x=some (np,m)/\ds.length+1=np/\∀xs h,xs.length≠0->Beg n xs->m (ds++[.tup (xs.map D.int)]) h=.ok (.int (B xs)) h
theorem nP (c:i3 n B C) (b0:xs.length≠0) (b:Beg n xs) (ef:f env h=.ok C h1) (ea:a env h1=.ok [.tup (xs.map D.int)] h2):iE jM f a env h=.ok (.int (B xs)) h2:=by
 obtain⟨x,ds,np,m,rfl,et,el,em⟩:=c
 unfold iE
 simp_all
theorem lP (c:i3 n B C) (b:Beg n xs) (hn:n<=1000):bp [.int n,.tup (xs.map D.int),C] h=.ok (.frl ((nxB n B xs).map fun x=>tpl (xs++[x]))) h:=by
 have bl:=b.len
 have q:=Ax (n:=n) (xs:=xs) (h:=h) (by lia)
 have q2:cx (av asB (ao dGt (iE jM (af 1) (aa (af 0) ak)) (cC (.int 0)))) (af 0) (fun x=>[some x,some C]) ((aI n xs).map fun x=>tpl (xs++[x])) h=.ok ((nxB n B xs).map fun x=>tpl (xs++[x])) h:=by
  rw[comp_map (fun x=>tpl (xs++[x])) (fun x=>decide (0<B (xs++[x]))) (fun x=>tpl (xs++[x])) (aI n xs) fun x hx=>⟨by
   have e:=nP (f:=af 1) (a:=aa (af 0) ak) (env:=[some (tpl (xs++[x])),some C]) (h:=h) (h1:=h) (h2:=h) c (by simp) (b.snoc hx) (by simp) (by rfl)
   simp_all,fun _=>by simp⟩]
  rfl
 have l1:((aI n xs).map fun x=>tpl (xs++[x])).length<=1000000:=by rw[NJ,eO b];lia
 have z2:(n:Int).natAbs<=1000000:=by lia
 have z3:n<=1000000:=by lia
 generalize ((aI n xs).map fun x=>tpl (xs++[x]))=W at *
 generalize ((nxB n B xs).map fun x=>tpl (xs++[x]))=W2 at *
 generalize xs.map D.int=X at *
 simp[bp,aV,z2,z3,q,l1,q2]
noncomputable def ONB:MS:=(ay (aX 6 (iE jM (af 2) (aa (af 5) ak))) (ay (bP (av asB (ao dLt (af 1) (af 6))) (ay (aX 3 (af 5)) Dy) aQ) (zU 1 a9 (af 6))))
noncomputable def ONO:MS:=(eN (cw (ah bp (aa (af 0) (aa (af 3) (aa (af 2) ak))))) (gN 5) ONB)
theorem FD {n:Nat}{B:List Int->Int}{C:D} (c:i3 n B C){xs:List Int}{h:Hh}{y4:Option D} (b:Beg n xs):∀(l:List Int) (t x t':Int) (y5 y6:Option D),(∀z∈l,z∈aI n xs)->kx B xs l t=some (x,t') →
  ∃z5 z6,eM (gN 5) ONB (l.map fun x=>tpl (xs++[x])) [some (.int n),some (.int t),some C,some (.tup (xs.map D.int)),y4,y5,y6] h=.ok (.nx [some (.int n),some (.int t'),some C,some (tpl (xs++[x])),y4,z5,z6]) h
 | [],t,x,t',y5,y6,_,e=>by cases e
 | z::l,t,x,t',y5,y6,hl,e=>by
  have cc:=nP (f:=af 2) (a:=aa (af 5) ak) (env:=[some (.int n),some (.int t),some C,some (.tup (xs.map D.int)),y4,some (tpl (xs++[z])),y6]) (h:=h) (h1:=h) (h2:=h) c (by simp) (b.snoc (hl z NG)) (by simp) (by simp[tpl])
  rw[NV,jB]
  unfold kx at e
  split at e
  ·rename_i c1
   cases e
   refine⟨some (tpl (xs++[z])),some (.int (B (xs++[z]))),?_⟩
   generalize tpl (xs++[z])=Z at *
   generalize (l.map fun x=>tpl (xs++[x]))=W
   simp[ONB,cc,c1]
  ·rename_i c1
   obtain⟨z5,z6,q⟩:=FD c (xs:=xs) (h:=h) (y4:=y4) b l (t - B (xs++[z])) x t' (some (tpl (xs++[z]))) (some (.int (B (xs++[z])))) (fun y hy=>hl y (ox _ hy)) e
   refine⟨z5,z6,?_⟩
   generalize tpl (xs++[z])=Z at *
   generalize (l.map fun x=>tpl (xs++[x]))=W at *
   have st:ONB [some (.int n),some (.int t),some C,some (.tup (xs.map D.int)),y4,some Z,y6] h=.ok (.nx [some (.int n),some (.int (t - B (xs++[z]))),some C,some (.tup (xs.map D.int)),y4,some Z,some (.int (B (xs++[z])))]) h:=by simp[ONB,cc,c1]
   simp[st,q]
theorem GP {n:Nat}{B:List Int->Int}{C:D}{t:Int}{h:Hh} (K:Cnt n B) (c:i3 n B C) (hn:n<=1000) (h0:0<=t) (h1:t<B []):c_ [.int n,.int t,C] h=.ok (.tup ((grd n B n [] t).1.map D.int)) h:=by
 obtain⟨s,lp,sl,sb,s0,s1,sg⟩:=nA (σ:=List Int × Int × Option D × Option D × Option D) (tg:=gN 4) (body:=ONO) (fun(i:Nat)=>D.int i) n (fun s=>[some (.int n),some (.int s.2.1),some C,some (.tup (s.1.map D.int)),s.2.2.1,s.2.2.2.1,s.2.2.2.2]) (fun _=>h) (fun i s=>s.1.length=i/\Beg n s.1/\0<=s.2.1/\s.2.1<B s.1/\grd n B (n - i) s.1 s.2.1=grd n B n [] t) (fun i s hi hs=>by
  obtain⟨xs,u,y4,y5,y6⟩:=s
  obtain⟨e1,b,u0,u1,eg⟩:=hs
  dsimp only at e1 b u0 u1 eg ⊢
  have u1':=u1
  rw[<- K.nx b (by lia)] at u1'
  obtain⟨x,t',l1,l2,p1,p2,p3,p4,p5⟩:=ny u0 u1'
  have xin:x∈aI n xs:=gJ (by rw[p1];simp)
  obtain⟨z5,z6,q⟩:=FD c (xs:=xs) (h:=h) (y4:=some (.int (i:Int))) b (nxB n B xs) u x t' y5 y6 (fun z hz=>gJ hz) p2
  refine⟨(xs++[x],t',some (.int i),z5,z6),⟨by simp[e1],b.snoc xin,p4,p5,?_⟩,?_⟩
  ·rw[<- eg,show n - i=(n - (i+1))+1 by lia]
   show _=(match kx B xs (nxB n B xs) u with | some (x,t')=>grd n B (n - (i+1)) (xs++[x]) t' | none=>(xs,u))
   rw[p2]
  ·have lo:=lP (h:=h) c b hn
   have ll:((nxB n B xs).map fun x=>tpl (xs++[x])).length<=1000000:=by
    rw[NJ]
    have:=O_ (fun x=>decide (0<B (xs++[x]))) (aI n xs)
    rw[eO b] at this
    unfold nxB;lia
   dsimp only
   rw[show tpl (xs++[x])=D.tup ((xs++[x]).map D.int) from rfl] at q
   generalize ((nxB n B xs).map fun x=>tpl (xs++[x]))=W at *
   generalize (xs++[x]).map D.int=X2 at *
   generalize xs.map D.int=X at *
   simp[ONO,lo,q]) n 0 ([],t,none,none,none) (by lia) ⟨rfl,Beg.nil n,h0,h1,rfl⟩
 obtain⟨xs,u,y4,y5,y6⟩:=s
 dsimp only at lp sl sb s0 s1 sg
 rw[Tj] at sg
 have e:(grd n B n [] t).1=xs:=by rw[<- sg];rfl
 rw[e]
 rw[<- Pt,<- hG,PZ] at lp
 have z2:(n:Int).natAbs<=1000000:=by lia
 have z3:n<=1000000:=by lia
 have eq:c_=bR 7 (ay (aX 3 (ah gG ak)) (ay (eN (dn eD (aa (af 0) ak)) (gN 4) ONO) (aM (af 3)))):=rfl
 rw[eq]
 simp[aV,z2,z3,lp]
noncomputable def NAB:MS:=(bP (av asB (ao dLt (ao dIx (af 4) (cUn h8 (cC (.int 1)))) (ao dIx (af 0) (af 3)))) (zU 2 qY (iE jM (af 1) (aa (af 4) ak))) aQ)
noncomputable def NAO:MS:=(eN (cw (ah bp (aa (ah b_ (aa (af 0) ak)) (aa (cY aF (af 0) cR (dY (af 3))) (aa (af 1) ak))))) (gN 4) NAB)
theorem Cp {n:Nat}{B:List Int->Int}{C:D} (c:i3 n B C){xs os:List Int}{h:Hh}{p:Nat} (b:Beg n xs) (hp:p<os.length):∀(l:List Int) (t:Int) (y4:Option D),(∀z∈l,z∈aI n xs) →
  ∃z4,eM (gN 4) NAB (l.map fun x=>tpl (xs++[x])) [some (.tup (os.map D.int)),some C,some (.int t),some (.int (p:Int)),y4] h=.ok (.nx [some (.tup (os.map D.int)),some C,some (.int (t+i5 B xs (l.filter fun x=>decide (x<gI os p)))),some (.int (p:Int)),z4]) h
 | [],t,y4,_=>⟨y4,by simp[yP,i5]⟩
 | z::l,t,y4,hl=>by
  have io:ixK (os.map D.int) (p:Int) h=.ok (.int (gI os p)) h:=eS rfl hp
  have iz:dIx (tpl (xs++[z])) (.int (-1)) h=.ok (.int z) h:=by
   have e:(xs++[z]).map D.int=xs.map D.int++[D.int z]:=by simp
   unfold tpl;rw[e];simp
  rw[NV,jB]
  by_cases c1:z<gI os p
  ·have cc:=nP (f:=af 1) (a:=aa (af 4) ak) (env:=[some (.tup (os.map D.int)),some C,some (.int t),some (.int (p:Int)),some (tpl (xs++[z]))]) (h:=h) (h1:=h) (h2:=h) c (by simp) (b.snoc (hl z NG)) (by simp) (by simp[tpl])
   obtain⟨z4,q⟩:=Cp c (xs:=xs) (os:=os) (h:=h) b hp l (t+B (xs++[z])) (some (tpl (xs++[z]))) (fun y hy=>hl y (ox _ hy))
   refine⟨z4,?_⟩
   rw[OP,if_pos (by simpa using c1),fQ,<- Int.add_assoc]
   generalize tpl (xs++[z])=Z at *
   generalize (l.map fun x=>tpl (xs++[x]))=W at *
   generalize os.map D.int=X at *
   have st:NAB [some (.tup X),some C,some (.int t),some (.int (p:Int)),some Z] h=.ok (.nx [some (.tup X),some C,some (.int (t+B (xs++[z]))),some (.int (p:Int)),some Z]) h:=by simp[NAB,io,iz,c1,cc]
   simp[st,q]
  ·obtain⟨z4,q⟩:=Cp c (xs:=xs) (os:=os) (h:=h) b hp l t (some (tpl (xs++[z]))) (fun y hy=>hl y (ox _ hy))
   refine⟨z4,?_⟩
   rw[OP,if_neg (by simpa using c1)]
   generalize tpl (xs++[z])=Z at *
   generalize (l.map fun x=>tpl (xs++[x]))=W at *
   generalize os.map D.int=X at *
   have st:NAB [some (.tup X),some C,some (.int t),some (.int (p:Int)),some Z] h=.ok (.nx [some (.tup X),some C,some (.int t),some (.int (p:Int)),some Z]) h:=by simp[NAB,io,iz,c1]
   simp[st,q]
theorem Fe {n:Nat}{B:List Int->Int}{os:List Int}{i:Nat} (hi:i<os.length):rkL n B (os.take i) (os.drop i)=i5 B (os.take i) ((aI n (os.take i)).filter fun x=>decide (x<gI os i))+rkL n B (os.take (i+1)) (os.drop (i+1)):=by
 have e:os.drop i=gI os i::os.drop (i+1):=by rw[dS hi];exact Oh hi
 have e2:os.take (i+1)=os.take i++[gI os i]:=by rw[dS hi];exact P6 hi
 rw[e,e2]
 rfl
theorem EO {n:Nat}{B:List Int->Int}{C:D}{os:List Int}{h:Hh} (K:Cnt n B) (c:i3 n B C) (hn:n<=1000) (o:Ord n os):d7 [.tup (os.map D.int),C] h=.ok (.int (rkL n B [] os)) h:=by
 have ol:=o.len
 obtain⟨s,lp,si⟩:=nA (σ:=Int × Option D × Option D) (tg:=gN 3) (body:=NAO) (fun(i:Nat)=>D.int i) n (fun s=>[some (.tup (os.map D.int)),some C,some (.int s.1),s.2.1,s.2.2]) (fun _=>h) (fun i s=>s.1+rkL n B (os.take i) (os.drop i)=rkL n B [] os) (fun i s hi hs=>by
  obtain⟨t,y3,y4⟩:=s
  dsimp only at hs ⊢
  have b:Beg n (os.take i):=o.beg.take i
  obtain⟨z4,q⟩:=Cp c (xs:=os.take i) (os:=os) (h:=h) (p:=i) b (by lia) (nxB n B (os.take i)) t y4 (fun z hz=>gJ hz)
  have sm:=sQ (B:=B) (xs:=os.take i) (p:=fun x=>decide (x<gI os i)) (K.left b)
  rw[show((aI n (os.take i)).filter fun x=>decide (0<B (os.take i++[x])))=nxB n B (os.take i) from rfl] at sm
  rw[sm] at q
  refine⟨(t+i5 B (os.take i) ((aI n (os.take i)).filter fun x=>decide (x<gI os i)),some (.int i),z4),?_,?_⟩
  ·dsimp only
   have rd:=Fe (n:=n) (B:=B) (os:=os) (i:=i) (by lia)
   lia
  ·have lo:=lP (h:=h) c b hn
   have ll:((nxB n B (os.take i)).map fun x=>tpl (os.take i++[x])).length<=1000000:=by
    rw[NJ]
    have:=O_ (fun x=>decide (0<B (os.take i++[x]))) (aI n (os.take i))
    rw[eO b] at this
    unfold nxB;lia
   have ct:cutD (os.map D.int) none (some (i:Int))=(os.take i).map D.int:=by rw[jA,tG]
   have lx:(os.map D.int).length=n:=by rw[NJ,ol]
   generalize ((nxB n B (os.take i)).map fun x=>tpl (os.take i++[x]))=W at *
   generalize (os.take i).map D.int=X2 at *
   generalize os.map D.int=X at *
   have z9:n<=1000000:=by lia
   simp[NAO,lx,ct,lo,q,z9]) n 0 (0,none,none) (by lia) (by simp)
 obtain⟨t,y3,y4⟩:=s
 dsimp only at lp si
 have e:t=rkL n B [] os:=by
  rw[<- si,PQ (by lia)]
  simp[rkL]
 subst e
 rw[<- Pt,<- hG] at lp
 have z2:(n:Int).natAbs<=1000000:=by lia
 have z3:n<=1000000:=by lia
 have lx:(os.map D.int).length=n:=by rw[NJ,ol]
 have eq:d7=bR 5 (ay (aX 2 (cC (.int 0))) (ay (eN (dn eD (aa (ah b_ (aa (af 0) ak)) ak)) (gN 3) NAO) (aM (af 2)))):=rfl
 rw[eq]
 generalize os.map D.int=X at *
 simp[aV,lx,z2,z3,lp]
theorem D2 {n:Nat}{xs:List Int} (b:Beg n xs){r:Nat} (hr:r<(aI n xs).length):lwI (xs++[(aI n xs)[r]])=r:=by
 have so:=jK n xs
 have b2:=b.snoc (Qp hr)
 rw[<- h_ b2 (by simp),rB,rG,Pq]
 have:((aI n xs).filter fun y=>decide (y<(aI n xs)[r])&&!((aI n xs)[r] == y))=(aI n xs).filter fun y=>decide (y<(aI n xs)[r]):=PC fun y _=>by
  by_cases c:y<(aI n xs)[r]
  ·have:¬ (aI n xs)[r]=y:=by lia
   simp[c,this]
  ·simp[c]
 rw[this,yH so r hr]
theorem DV {n:Nat}{xs:List Int} (b:Beg n xs) (h:xs.length≠0){r:Nat} (hr:r<(aI n xs).length):(aI n xs)[r]<aR xs↔(r:Int)<lwI xs:=by
 rw[<- h_ b h,oB (v:=aR xs) (jK n xs) r hr]
 lia
noncomputable def Jr (n:Nat) (fl:Nat->Bool):Nat->Int->Int
 | 0,_=>1
 | m+1,l=>sg (fun r=>if decide ((r:Int)<l)=fl (n - 2 - m) then Jr n fl m r else 0) (m+1)
theorem mJ (n:Nat) (fl:Nat->Bool):∀(m:Nat) (l:Int),0<=Jr n fl m l/\Jr n fl m l<=k8 m
 | 0,l=>by unfold Jr k8;lia
 | m+1,l=>vC fun r _=>by
  have:=mJ n fl m r
  split<;>lia
noncomputable def fok (fl:Nat->Bool) (xs:List Int):Bool:=(ND (xs.length - 1)).all fun i=>decide (gI xs (i+1)<gI xs i) == fl i
theorem Bb {fl:Nat->Bool}{xs:List Int}{x:Int} (h:xs.length≠0):fok fl (xs++[x])=(fok fl xs&&(decide (x<aR xs) == fl (xs.length - 1))):=by
 unfold fok
 rw[N2]
 show(ND xs.length).all _=_
 obtain⟨m,hm⟩:∃m,xs.length=m+1:=⟨xs.length - 1,by lia⟩
 rw[hm,PL,List.all_append,show m+1 - 1=m from rfl]
 have e1:gI (xs++[x]) (m+1)=x:=by rw[<- hm];exact xG
 have e2:gI (xs++[x]) m=aR xs:=by unfold aR;rw[ik (by lia),hm];rfl
 simp only[Qh,Ti,SY,e1,e2]
 congr 1
 rw[PK,NZ,NZ]
 refine forall_congr' fun i=>forall_congr' fun hi=>?_
 have hi:=N3.mp hi
 rw[ik (by lia),ik (by lia)]
noncomputable def jcV (n:Nat) (fl:Nat->Bool) (xs:List Int):Int:=if xs.length=0 then sg (fun r=>Jr n fl (n - 1) r) n else if fok fl xs=true then Jr n fl (n - xs.length) (lwI xs) else 0
theorem F5 {n:Nat}{fl:Nat->Bool}{xs:List Int}:0<=jcV n fl xs:=by
 unfold jcV
 split
 ·exact(vC (B:=k8 (n - 1)) fun r _=>mJ n fl _ _).1
 ·split
  ·exact(mJ n fl _ _).1
  ·exact P2 _
theorem lT:∀{a b:Nat},a<=b->k8 a<=k8 b
 | a,0,h=>by have:a=0:=by lia
             subst this;exact NC _
 | a,b+1,h=>by
  by_cases c:a=b+1
  ·subst c;exact NC _
  ·have ih:=lT (a:=a) (b:=b) (by lia)
   show k8 a<=(b+1)*k8 b
   rw[Nat.succ_mul];lia
theorem JX {n:Nat}{fl:Nat->Bool}{xs:List Int} (h1:1<=n) (hn:n<=20):jcV n fl xs<=10 ^ 20:=by
 have f20:k8 20<=10 ^ 20:=by decide +kernel
 have m1:=lT (a:=n) (b:=20) hn
 unfold jcV
 split
 ·have:=(vC (f:=fun r=>Jr n fl (n - 1) r) (B:=k8 (n - 1)) (n:=n) fun r _=>mJ n fl _ _).2
  have e:n*k8 (n - 1)=k8 n:=by
   obtain⟨m,rfl⟩:∃m,n=m+1:=⟨n - 1,by lia⟩
   rfl
  lia
 ·split
  ·have:=(mJ n fl (n - xs.length) (lwI xs)).2
   have:=lT (a:=n - xs.length) (b:=20) (by lia)
   lia
  ·lia
theorem oE {n:Nat} (fl:Nat->Bool) (h1:1<=n):Cnt n (jcV n fl):=by
 refine⟨fun xs _=>F5,fun xs b hl=>?_⟩
 have ll:=eO b
 by_cases c:xs.length=0
 ·have:xs=[]:=O2 c
  subst this
  have el:aI n []=gi 0 n:=by unfold aI;rw[Pk.mpr];intro x _;rfl
  rw[el,t6,pJ]
  show sg _ n=_
  unfold sg
  congr 1
  refine Ow fun r hr=>?_
  have hr:=N3.mp hr
  have e:gI (gi 0 n) r=r:=by rw[dS (by rw[pJ];exact hr)];simp[gi]
  rw[e,PJ]
  have l1:lwI [(r:Int)]=r:=by
   have:aR [(r:Int)]=r:=rfl
   unfold lwI;rw[this];simp
  show _=(if ([(r:Int)]:List Int).length=0 then _ else if fok fl [(r:Int)]=true then Jr n fl (n - 1) (lwI [(r:Int)]) else 0)
  rw[l1]
  rfl
 ·obtain⟨m,hm⟩:∃m,n - xs.length=m+1:=⟨n - xs.length - 1,by lia⟩
  rw[hm] at ll
  rw[t6,ll]
  have key:∀r,r<m+1->jcV n fl (xs++[gI (aI n xs) r])=if fok fl xs=true then (if decide ((r:Int)<lwI xs)=fl (n - 2 - m) then Jr n fl m r else 0) else 0:=fun r hr=>by
   have hr':r<(aI n xs).length:=by lia
   rw[dS hr']
   have l1:=D2 b hr'
   have l2:=DV b c hr'
   unfold jcV
   rw[if_neg (by simp),Bb c,l1,N2]
   have e3:n - (xs.length + [(aI n xs)[r]].length)=m:=by simp;lia
   rw[e3,show n - 2 - m=xs.length - 1 by lia]
   have e4:decide ((aI n xs)[r]<aR xs)=decide ((r:Int)<lwI xs):=by rw[PK];simpa using l2
   rw[e4]
   cases fok fl xs with
   | false=>simp
   | true=>
    simp only[Bool.true_and,if_true]
    by_cases d:decide ((r:Int)<lwI xs)=fl (xs.length - 1)
    ·rw[if_pos d,if_pos (by rw[d];simp)]
    ·rw[if_neg d,if_neg (by simpa using d)]
  unfold jcV
  rw[if_neg c,hm]
  have e5:((ND (m+1)).map fun i=>jcV n fl (xs++[gI (aI n xs) i]))=(ND (m+1)).map fun(r:Nat)=>if fok fl xs=true then (if decide ((r:Int)<lwI xs)=fl (n - 2 - m) then Jr n fl m r else 0) else 0:=Ow fun r hr=>key r (N3.mp hr)
  show _=((ND (m+1)).map fun i=>jcV n fl (xs++[gI (aI n xs) i])).sum
  rw[e5]
  cases fok fl xs with
  | false=>
   have:=kJ (f:=fun _=>(0:Int)) (n:=m+1) fun _ _=>rfl
   simpa [sg] using this.symm
  | true=>simp only[if_true];rfl
theorem yT {n:Nat}{fl:Nat->Bool}{xs:List Int} (h1:1<=n) (h:xs.length=n):jcV n fl xs=if fok fl xs=true then 1 else 0:=by
 unfold jcV
 rw[if_neg (by lia),show n - xs.length=0 by lia]
 rfl
noncomputable def aP (n:Nat) (fl:Nat->Bool):List Int:=((ND (n - 1)).filter fl).map fun(i:Nat)=>(i:Int)
theorem Cz {α:Type}{p q:α->Bool}{l:List α}:l.filter p=l.filter q↔∀x∈l,p x=q x:=by
 constructor
 ·intro e x hx
  rw[PK]
  have:x∈l.filter p↔x∈l.filter q:=by rw[e]
  simpa [hx] using this
 ·exact fun h=>PC h
theorem uU:∀{m n:Nat},m<=n->(ND n).filter (fun i=>decide (i<m))=ND m
 | m,0,h=>by have:m=0:=by lia
             subst this;rfl
 | m,n+1,h=>by
  rw[PL,Q4]
  by_cases c:m=n+1
  ·subst c
   rw[Pk.mpr (by intro x hx;have:=N3.mp hx;simp;lia),PL]
   simp
  ·rw[uU (by lia)]
   have:¬ n<m:=by lia
   simp[this]
theorem EV {n len:Nat}{fl:Nat->Bool} (h:len<=n) (h0:len≠0):(aP n fl).filter (fun x=>decide (x<(len:Int) - 1))=((ND (len - 1)).filter fl).map fun(i:Nat)=>(i:Int):=by
 unfold aP
 rw[List.filter_map,<- uU (m:=len - 1) (n:=n - 1) (by lia),Pq,Pq]
 congr 1
 refine PC fun i _=>?_
 rw[Se]
 congr 1
 show decide ((i:Int)<(len:Int) - 1)=decide (i<len - 1)
 rw[PK];simp;lia
theorem map_inj {l1 l2:List Nat}:(l1.map fun(i:Nat)=>(i:Int))=(l2.map fun(i:Nat)=>(i:Int))↔l1=l2:=by
 constructor
 ·intro e
  have:=congrArg (List.map Int.toNat) e
  simpa [ON,Function.comp_def] using this
 ·rintro rfl;rfl
theorem zq {n:Nat}{fl:Nat->Bool}{xs:List Int} (h:xs.length<=n) (h0:xs.length≠0):aY xs=(aP n fl).filter (fun x=>decide (x<(xs.length:Int) - 1))↔fok fl xs=true:=by
 rw[EV h h0]
 unfold aY sA fok
 rw[map_inj,Cz,NZ]
 refine forall_congr' fun i=>forall_congr' fun _=>?_
 rw[beq_iff_eq]
theorem C8 {n:Nat}{fl:Nat->Bool}{xs:List Int} (h:xs.length=n) (h1:1<=n):fok fl xs=true↔aY xs=aP n fl:=by
 rw[<- zq (n:=n) (by lia) (by lia),Pk.mpr]
 intro x hx
 obtain⟨i,hi,rfl⟩:=Oi.mp hx
 have:=N3.mp (OA.mp hi).1
 simp;lia
theorem BE {n:Nat}{fl:Nat->Bool}{p:Nat} (h:p<n - 1):(aP n fl).any (· == (p:Int))=fl p:=by
 rw[PK,PY]
 unfold aP
 constructor
 ·rintro⟨x,hx,e⟩
  obtain⟨i,hi,rfl⟩:=Oi.mp hx
  have:i=p:=by have:=beq_iff_eq.mp e;lia
  subst this
  exact(OA.mp hi).2
 ·intro e
  exact⟨p,Oi.mpr ⟨p,OA.mpr ⟨N3.mpr h,e⟩,rfl⟩,by simp⟩
theorem DS {n:Nat}{fl:Nat->Bool}{t:Int} (hn:1<=n) (h0:0<=t) (h1:t<jcV n fl []):∃xs,(grd n (jcV n fl) n [] t).1=xs/\Ord n xs/\aY xs=aP n fl/\rkL n (jcV n fl) [] xs=t:=by
 obtain⟨rest,t',e1,e2,e3,e4,e5,e6⟩:=BR (oE fl hn) n [] t (Beg.nil n) (by simp) h0 h1
 rw[PJ] at e1 e3 e5
 rw[yT hn e2] at e5
 by_cases c:fok fl rest=true
 ·rw[if_pos c] at e5
  exact⟨rest,by rw[e1],⟨e2,e3.nd,e3.lo,e3.hi⟩,(C8 e2 hn).mp c,by lia⟩
 ·rw[if_neg c] at e5;lia
noncomputable def cI (n:Nat) (fl:Nat->Bool) (m:Nat):List Int:=(ND (m+1)).map fun(l:Nat)=>Jr n fl m l
noncomputable def fj (xs:List Int):D:=.frl (xs.map D.int)
noncomputable def jrD (n:Nat) (fl:Nat->Bool) (k:Nat):List D:=(ND k).map fun m=>fj (cI n fl m)
theorem oN {n:Nat}{fl:Nat->Bool}{m:Nat}:(cI n fl m).length=m+1:=by simp[cI]
theorem rJ {n:Nat}{fl:Nat->Bool}{m l:Nat} (h:l<=m+1):((cI n fl m).take l).sum=sg (fun r=>Jr n fl m r) l:=by
 unfold cI sg
 rw[<- List.map_take,List.take_range,Sx h]
theorem pq {n:Nat}{fl:Nat->Bool}{m:Nat}:(cI n fl m).sum=sg (fun r=>Jr n fl m r) (m+1):=rfl
theorem yY {n:Nat}{fl:Nat->Bool}{m l:Nat} (h:l<=m+1) (hf:fl (n - 2 - m)=true):Jr n fl (m+1) l=((cI n fl m).take l).sum:=by
 rw[rJ h]
 show sg (fun r=>if decide ((r:Int)<(l:Int))=fl (n - 2 - m) then Jr n fl m r else 0) (m+1)=_
 rw[hf]
 have e:=kh (fun r=>if decide ((r:Int)<(l:Int))=true then Jr n fl m r else 0) l (m+1 - l)
 rw[show l+(m+1 - l)=m+1 by lia] at e
 rw[e,kJ (f:=fun i=>if decide (((l+i:Nat):Int)<(l:Int))=true then Jr n fl m ((l+i:Nat):Int) else 0) fun i _=>by
  rw[if_neg (by have:¬ (((l+i:Nat):Int)<(l:Int)):=by lia
                rw[decide_eq_false this];exact Oc)],Int.add_zero]
 refine fA fun i hi=>?_
 have:((i:Int)<(l:Int)):=by lia
 simp[this]
theorem zi {n:Nat}{fl:Nat->Bool}{m l:Nat} (h:l<=m+1) (hf:fl (n - 2 - m)=false):Jr n fl (m+1) l=((cI n fl m).drop l).sum:=by
 have t:=rJ (n:=n) (fl:=fl) h
 have s:((cI n fl m).take l).sum+((cI n fl m).drop l).sum=(cI n fl m).sum:=by
  rw[<- Sr,P0]
 rw[pq,t] at s
 have e0:=kh (fun r=>Jr n fl m r) l (m+1 - l)
 rw[show l+(m+1 - l)=m+1 by lia] at e0
 show sg (fun r=>if decide ((r:Int)<(l:Int))=fl (n - 2 - m) then Jr n fl m r else 0) (m+1)=_
 rw[hf]
 have e:=kh (fun r=>if decide ((r:Int)<(l:Int))=false then Jr n fl m r else 0) l (m+1 - l)
 rw[show l+(m+1 - l)=m+1 by lia] at e
 rw[e,kJ (f:=fun r=>if decide ((r:Int)<(l:Int))=false then Jr n fl m r else 0) fun i hi=>by
  have:((i:Int)<(l:Int)):=by lia
  simp[this],Sz]
 have e2:sg (fun i=>if decide (((l+i:Nat):Int)<(l:Int))=false then Jr n fl m ((l+i:Nat):Int) else 0) (m+1 - l)=sg (fun i=>Jr n fl m ((l+i:Nat):Int)) (m+1 - l):=fA fun i hi=>by
  rw[if_pos (decide_eq_false (by lia))]
 rw[e2]
 lia
noncomputable def SRB:MS:=(ay (aX 4 (ao dIx (af 2) (cUn h8 (cC (.int 1))))) (ay (aX 5 (ao (dIn false) (ao a9 (ao a9 (af 0) (cC (.int 1))) (af 3)) (af 1))) (dA (lI fM (af 2) (aa (bT aF (dn eD (aa (ao (cH aF) (af 3) (cC (.int 1))) ak)) [5,4] tt1 (ah fI (aa (cIf (av gS (af 1)) (cY aF (af 2) cR (dY (af 0))) (cY aF (af 2) (dY (af 0)) cR)) ak))) ak)))))
theorem Cy (n:Nat) (fl:Nat->Bool) (k:Nat):jrD n fl (k+1)=jrD n fl k++[fj (cI n fl k)]:=by unfold jrD;rw[PL,Q0];rfl
theorem yC {n:Nat}{fl:Nat->Bool}{k:Nat}:(jrD n fl k).length=k:=by simp[jrD]
theorem Dv {n:Nat}{fl:Nat->Bool}{m:Nat}{h:Hh} (hm:m<=30):cx tt1 (ah fI (aa (cIf (av gS (af 1)) (cY aF (af 2) cR (dY (af 0))) (cY aF (af 2) (dY (af 0)) cR)) ak)) (fun x=>[some x,some (.bl (fl (n - 2 - m))),some (fj (cI n fl m))]) (cX 0 (m+2)) h=.ok ((cI n fl (m+1)).map D.int) h:=by
 rw[fG (fun l=>D.int (Jr n fl (m+1) l)) (fun l hl=>?_)]
 ·unfold cI;rw[ON];rfl
 ·have ln:(cI n fl m).length=m+1:=oN
  cases hf:fl (n - 2 - m) with
  | true=>
   rw[yY (by lia) hf]
   have ct:cutD ((cI n fl m).map D.int) none (some (l:Int))=((cI n fl m).take l).map D.int:=by rw[jA,tG]
   generalize (cI n fl m).take l=J2 at *
   generalize hj:(cI n fl m).map D.int=J at *
   simp[fj,hj,ct]
  | false=>
   rw[zi (by lia) hf]
   have ct:cutD ((cI n fl m).map D.int) (some (l:Int)) none=((cI n fl m).drop l).map D.int:=by rw[jA,Ai]
   generalize (cI n fl m).drop l=J2 at *
   generalize hj:(cI n fl m).map D.int=J at *
   simp[fj,hj,ct]
theorem vi {n:Nat}{fl:Nat->Bool}{h:Hh} (h1:1<=n) (hn:n<=20):dG [.int n,.tup ((aP n fl).map D.int)] h=.ok (.frl (jrD n fl n)) h:=by
 obtain⟨s,lp,ei⟩:=nA (σ:=List D × Option D × Option D × Option D) (tg:=gN 3) (body:=SRB) (fun(i:Nat)=>D.int (1+(i:Int))) (n - 1) (fun s=>[some (.int n),some (.tup ((aP n fl).map D.int)),some (.ref 0),s.2.1,s.2.2.1,s.2.2.2]) (fun s=>[.lst s.1]) (fun i s=>s.1=jrD n fl (i+1)) (fun i s hi hs=>by
  obtain⟨d,y3,y4,y5⟩:=s
  dsimp only at hs ⊢
  subst hs
  refine⟨(jrD n fl (i+2),some (.int (1+(i:Int))),some (fj (cI n fl i)),some (.bl (fl (n - 2 - i)))),rfl,?_⟩
  have la:ixK (jrD n fl (i+1)) (-1) [.lst (jrD n fl (i+1))]=.ok (fj (cI n fl i)) [.lst (jrD n fl (i+1))]:=by rw[Cy];exact uI
  have q:=Dv (n:=n) (fl:=fl) (m:=i) (h:=[.lst (jrD n fl (i+1))]) (by lia)
  have ii:(n:Int) - 1 - (1+(i:Int))=((n - 2 - i:Nat):Int):=by lia
  have sa:=BE (n:=n) (fl:=fl) (p:=n - 2 - i) (by lia)
  have inn:=Jk (neg:=false) (i:=((n - 2 - i:Nat):Int)) (ns:=aP n fl) (h:=[.lst (jrD n fl (i+1))])
  rw[sa] at inn
  have z1:(1+(i:Int)+1).toNat=i+2:=by lia
  have z2:(1+(i:Int)+1).natAbs<=1000000:=by lia
  have z3:i+2<=1000000:=by lia
  have ll:(jrD n fl (i+1)).length<1000000:=by rw[yC];lia
  have ap:fM (.ref 0) [fj (cI n fl (i+1))] [.lst (jrD n fl (i+1))]=.ok .non [.lst (jrD n fl (i+2))]:=by
   rw[uz (show aH [O.lst (jrD n fl (i+1))] 0=some (jrD n fl (i+1)) from rfl),if_pos ll,Cy n fl (i+1)];rfl
  have il:isL (.ref 0) [O.lst (jrD n fl (i+1))]=true:=rfl
  have ix:dIx (.ref 0) (.int (-1)) [O.lst (jrD n fl (i+1))]=.ok (fj (cI n fl i)) [O.lst (jrD n fl (i+1))]:=by rw[mG rfl];exact la
  rw[show fj (cI n fl (i+1))=D.frl ((cI n fl (i+1)).map D.int) from rfl] at ap
  generalize (cI n fl (i+1)).map D.int=W at *
  generalize fj (cI n fl i)=F at *
  generalize jrD n fl (i+1)=L1 at *
  generalize jrD n fl (i+2)=L2 at *
  generalize (aP n fl).map D.int=S at *
  simp[SRB,ix,ii,inn,z1,z2,z3,q,il,ap]) (n - 1) 0 (jrD n fl 1,none,none,none) (by lia) rfl
 obtain⟨d,y3,y4,y5⟩:=s
 dsimp only at lp ei
 rw[show n - 1+1=n by lia] at ei
 subst ei
 have ir:cX 1 (n - 1)=(RD 0 (n - 1)).map fun(i:Nat)=>D.int (1+(i:Int)):=by unfold cX;rw[Pt]
 rw[<- ir] at lp
 have e2:dG=AI (fun ds h=>((bR 6 (ay (aX 2 (ah (eX qu) (aa (ah (eX aF) (aa (cC (.int 1)) ak)) ak))) (ay (eN (dn qt (aa (cC (.int 1)) (aa (af 0) ak))) (gN 3) SRB) (aM (af 2))))) ds h).bind (eC h)):=rfl
 have lo1:cf 0 [.int (n:Int),.tup ((aP n fl).map D.int)]=true:=by
  simp only[cf,jR,Bool.true_and,SY];exact ko
 have lo2:jR 0 (.frl (jrD n fl n))=true:=by
  simp only[jR]
  exact jD fun d hd=>by
   obtain⟨m,_,rfl⟩:=Oi.mp hd
   show cf 0 ((cI n fl m).map D.int)=true
   exact ko
 have ex:=l6 (h:=[]) (t:=[]) (ds:=jrD n fl n) Wf.nil (by
  rw[NZ]
  intro d hd
  obtain⟨m,_,rfl⟩:=Oi.mp hd
  simp[fj,deep])
 have z2:(n:Int).natAbs<=1000000:=by lia
 have z3:((n:Int) - 1).toNat=n - 1:=by lia
 have z4:n - 1<=1000000:=by lia
 have z5:n<=1000000:=by lia
 have r0:jrD n fl 1=[.frl [.int 1]]:=rfl
 rw[r0] at lp
 simp only[PJ,List.length_nil] at ex
 rw[e2]
 generalize jrD n fl n=W at *
 generalize (aP n fl).map D.int=S at *
 simp[AI,lo1,aV,qu,z2,z3,z4,z5,lp,ex,lo2]
theorem Ja {n:Nat}{fl:Nat->Bool}{m:Nat}{i:Int}{h:Hh} (e:i=(m:Int)) (hm:m<n):ixK (jrD n fl n) i h=.ok (fj (cI n fl m)) h:=iK e (by rw[jrD,NU,Pj hm];rfl)
theorem JU {n:Nat}{fl:Nat->Bool}{xs:List Int}{h:Hh} (b:Beg n xs) (h1:1<=n) (hn:n<=20):ba [.frl (jrD n fl n),.tup ((aP n fl).map D.int),.tup (xs.map D.int)] h=.ok (.int (jcV n fl xs)) h:=by
 have bl:=b.len
 have ln:(((jrD n fl n).length:Nat):Int)=n:=by rw[yC]
 have lx:(((xs.map D.int).length:Nat):Int)=xs.length:=by rw[NJ]
 unfold jcV
 by_cases c:xs.length=0
 ·rw[if_pos c]
  have:xs=[]:=O2 c
  subst this
  have la:ixK (jrD n fl n) (-1) h=.ok (fj (cI n fl (n - 1))) h:=by
   obtain⟨m,rfl⟩:∃m,n=m+1:=⟨n - 1,by lia⟩
   rw[Cy];exact uI
  have su:(cI n fl (n - 1)).sum=sg (fun r=>Jr n fl (n - 1) r) n:=by
   rw[pq,show n - 1+1=n by lia]
  rw[<- su]
  generalize cI n fl (n - 1)=J at *
  generalize jrD n fl n=W at *
  generalize (aP n fl).map D.int=S at *
  simp[ba,aV,la,fj]
 ·rw[if_neg c]
  have c':¬ (xs.length:Int)=0:=by lia
  have c0:¬ xs=[]:=fun z=>c (by rw[z];rfl)
  have fa:=jf (xs:=xs) (h:=h) (by lia)
  have lo:=Cq (xs:=xs) (h:=h) (by lia)
  have q:cx (av asB (ao dLt (af 0) (ao a9 (ah b_ (aa (af 1) ak)) (cC (.int 1))))) (af 0) (fun x=>[some x,some (.tup (xs.map D.int))]) ((aP n fl).map D.int) h=.ok (((aP n fl).filter fun x=>decide (x<(xs.length:Int) - 1)).map D.int) h:=
   comp_map D.int (fun x=>decide (x<(xs.length:Int) - 1)) D.int (aP n fl) fun x hx=>⟨by simp,fun _=>by simp⟩
  have eq:=Bn (h:=h) (xs:=aY xs) (ys:=(aP n fl).filter fun x=>decide (x<(xs.length:Int) - 1))
  have fi:=zq (n:=n) (fl:=fl) bl c
  have ls:((aP n fl).map D.int).length<=1000000:=by
   rw[NJ,aP,NJ]
   have:=O_ fl (ND (n - 1))
   simp at this;lia
  have lf:(((aP n fl).filter fun x=>decide (x<(xs.length:Int) - 1)).map D.int).length<=1000000:=by
   rw[NJ]
   have:=O_ (fun x=>decide (x<(xs.length:Int) - 1)) (aP n fl)
   rw[NJ] at ls
   lia
  have ne:dNe (.tup ((aY xs).map D.int)) (.tup (((aP n fl).filter fun x=>decide (x<(xs.length:Int) - 1)).map D.int)) h=.ok (.bl (!decide (fok fl xs=true))) h:=by
   have e:eqD eqN h (.tup ((aY xs).map D.int)) (.tup (((aP n fl).filter fun x=>decide (x<(xs.length:Int) - 1)).map D.int))=some (decide (aY xs=(aP n fl).filter fun x=>decide (x<(xs.length:Int) - 1))):=gf 10 h _ _
   simp only[dNe,e]
   congr 3
   exact decide_eq_decide.mpr fi
  obtain⟨l0,l1⟩:=FG b
  have r1:ixK (jrD n fl n) ((n:Int) - xs.length) h=.ok (fj (cI n fl (n - xs.length))) h:=Ja (by lia) (by lia)
  have r2:dIx (fj (cI n fl (n - xs.length))) (.int (lwI xs)) h=.ok (.int (Jr n fl (n - xs.length) (lwI xs))) h:=by
   show ixK ((cI n fl (n - xs.length)).map D.int) (lwI xs) h=_
   rw[eS (j:=(lwI xs).toNat) (by lia) (by rw[oN];lia),dS (by rw[oN];lia)]
   simp only[cI,List.getElem_map,List.getElem_range]
   rw[show(((lwI xs).toNat:Nat):Int)=lwI xs by lia]
  generalize ((aP n fl).filter fun x=>decide (x<(xs.length:Int) - 1)).map D.int=SF at *
  generalize (aY xs).map D.int=F1 at *
  generalize fj (cI n fl (n - xs.length))=JJ at *
  generalize jrD n fl n=W at *
  generalize (aP n fl).map D.int=S at *
  generalize Jr n fl (n - xs.length) (lwI xs)=V at *
  generalize hl:(xs.length:Int)=L at *
  generalize xs.map D.int=X at *
  cases hf:fok fl xs with
  | true=>
   rw[hf] at ne
   simp[ba,aV,lx,c',fa,ls,q,lf,ne,ln,r1,lo,r2]
  | false=>
   rw[hf] at ne
   simp[ba,aV,lx,c',fa,ls,q,lf,ne]
theorem pA {n:Nat}{fl:Nat->Bool}{h:Hh} (h1:1<=n) (hn:n<=20):bK [.int n,.tup ((aP n fl).map D.int)] h=.ok (.clo "just_count" [.frl (jrD n fl n),.tup ((aP n fl).map D.int)]) h:=by
 have r:=vi (n:=n) (fl:=fl) (h:=h) h1 hn
 delta bK ES
 simp[r,nM]
theorem CM {n:Nat}{fl:Nat->Bool} (h1:1<=n) (hn:n<=20):i3 n (jcV n fl) (.clo "just_count" [.frl (jrD n fl n),.tup ((aP n fl).map D.int)]):=⟨_,_,3,ba,rfl,mQ,rfl,fun xs h _ b=>JU b h1 hn⟩
noncomputable def fll (n:Nat) (B:List Int->Int):Nat->List (List Int)
 | 0=>[[]]
 | m+1=>(fll n B m).flatMap fun xs=>(nxB n B xs).map fun x=>xs++[x]
noncomputable def wsm (B:List Int->Int) (L:List (List Int)):Int:=(L.map B).sum
theorem zd {B:List Int->Int}{L1 L2:List (List Int)}:wsm B (L1++L2)=wsm B L1+wsm B L2:=by unfold wsm;rw[Q0,Sr]
theorem kG {B:List Int->Int}{x:List Int}{L:List (List Int)}:wsm B (x::L)=B x+wsm B L:=by unfold wsm;rw[NV,Sd]
theorem za {B:List Int->Int}{xs l:List Int}:wsm B (l.map fun x=>xs++[x])=i5 B xs l:=by unfold wsm i5;rw[ON];rfl
theorem eB {n:Nat}{B:List Int->Int}:∀m,∀xs∈fll n B m,xs.length=m/\Beg n xs
 | 0,xs,h=>by simp[fll] at h;subst h;exact⟨rfl,Beg.nil n⟩
 | m+1,xs,h=>by
  unfold fll at h
  obtain⟨ys,hy,hx⟩:=List.mem_flatMap.mp h
  obtain⟨x,hz,rfl⟩:=Oi.mp hx
  obtain⟨l,b⟩:=eB m ys hy
  exact⟨by simp[l],b.snoc (gJ hz)⟩
theorem n6 {n:Nat}{B:List Int->Int} (C:Cnt n B):∀{L:List (List Int)},(∀xs∈L,Beg n xs/\xs.length<n)->wsm B (L.flatMap fun xs=>(nxB n B xs).map fun x=>xs++[x])=wsm B L
 | [],_=>rfl
 | xs::L,h=>by
  obtain⟨b,l⟩:=h xs NG
  rw[Rk,zd,n6 C fun ys hy=>h ys (ox _ hy),kG,za,C.nx b l]
theorem wb {n:Nat}{B:List Int->Int} (C:Cnt n B){t:Int} (h0:0<=t) (h1:t<B []):∀m,m<=n->∃xs t' L1 L2,fll n B m=L1++xs::L2/\t'=t - wsm B L1/\0<=t'/\t'<B xs/\grd n B (n - m) xs t'=grd n B n [] t
 | 0,_=>⟨[],t,[],[],rfl,by simp[wsm],h0,h1,rfl⟩
 | m+1,hm=>by
  obtain⟨xs,t',L1,L2,e1,e2,e3,e4,e5⟩:=wb C h0 h1 m (by lia)
  obtain⟨l,b⟩:=eB m xs (by rw[e1];simp)
  have e4':=e4
  rw[<- C.nx b (by lia)] at e4'
  obtain⟨x,u,l1,l2,p1,p2,p3,p4,p5⟩:=ny e3 e4'
  refine⟨xs++[x],u,(L1.flatMap fun xs=>(nxB n B xs).map fun x=>xs++[x])++l1.map fun x=>xs++[x],(l2.map fun x=>xs++[x])++L2.flatMap fun xs=>(nxB n B xs).map fun x=>xs++[x],?_,?_,p4,p5,?_⟩
  ·unfold fll
   rw[e1,List.flatMap_append,Rk,p1]
   simp
  ·rw[zd,za,n6 C fun ys hy=>by
    obtain⟨l,b⟩:=eB m ys (by rw[e1];simp[hy])
    exact⟨b,by lia⟩]
   lia
  ·rw[<- e5,show n - m=(n - (m+1))+1 by lia]
   show _=(match kx B xs (nxB n B xs) t' with | some (x,t')=>grd n B (n - (m+1)) (xs++[x]) t' | none=>(xs,t'))
   rw[p2]
theorem sN {B:List Int->Int}:∀{L:List (List Int)},(∀xs∈L,B xs=1)->wsm B L=L.length
 | [],_=>rfl
 | x::L,h=>by rw[kG,h x NG,sN fun y hy=>h y (ox _ hy),OO];lia
theorem tj {n:Nat}{B:List Int->Int} (C:Cnt n B):∀m,m<=n->wsm B (fll n B m)=B []
 | 0,_=>by show wsm B [[]]=_;rw[kG];show B []+0=_;lia
 | m+1,hm=>by
  show wsm B ((fll n B m).flatMap _)=_
  rw[n6 C fun ys hy=>by
   obtain⟨l,b⟩:=eB m ys hy
   exact⟨b,by lia⟩,tj C m (by lia)]
theorem sJ {n:Nat}{B:List Int->Int} (h0:0<B []):∀m,∀xs∈fll n B m,0<B xs
 | 0,xs,h=>by simp[fll] at h;subst h;exact h0
 | m+1,xs,h=>by
  unfold fll at h
  obtain⟨ys,hy,hx⟩:=List.mem_flatMap.mp h
  obtain⟨x,hz,rfl⟩:=Oi.mp hx
  have:=(OA.mp hz).2
  simpa using this
theorem yu {n:Nat}{B:List Int->Int} (h0:0<B []) (F:∀xs,Beg n xs->xs.length=n->B xs=0\/B xs=1):∀xs∈fll n B n,B xs=1:=fun xs hx=>by
 obtain⟨l,b⟩:=eB n xs hx
 have:=sJ h0 n xs hx
 rcases F xs b l with z | z<;>lia
theorem A7 {n:Nat}{B:List Int->Int} (C:Cnt n B) (F:∀xs,Beg n xs->xs.length=n->B xs=0\/B xs=1){t:Nat} (h1:(t:Int)<B []):(fll n B n)[t]?=some (grd n B n [] t).1:=by
 obtain⟨xs,t',L1,L2,e1,e2,e3,e4,e5⟩:=wb C (t:=(t:Int)) (by lia) h1 n (NC _)
 have one:=yu (by lia) F
 have w:wsm B L1=L1.length:=sN fun ys hy=>one ys (by rw[e1];simp[hy])
 have o1:=one xs (by rw[e1];simp)
 have:L1.length=t:=by lia
 rw[Tj] at e5
 rw[<- e5,e1,<- this]
 show(L1++xs::L2)[L1.length]?=some xs
 simp
theorem Dj {n:Nat}{B:List Int->Int} (C:Cnt n B) (F:∀xs,Beg n xs->xs.length=n->B xs=0\/B xs=1) (h0:0<B []):((fll n B n).length:Int)=B []:=by
 rw[<- sN (yu h0 F),tj C n (NC _)]
theorem DX {n:Nat}{B:List Int->Int} (C:Cnt n B){xs:List Int} (b:Beg n xs) (hl:xs.length<n) (h:¬ 0<B xs):nxB n B xs=[]:=by
 have s:=C.nx b hl
 have p:=C.pos xs b
 cases e:nxB n B xs with
 | nil=>rfl
 | cons x l=>
  have hx:x∈nxB n B xs:=by rw[e];exact NG
  have h1:=(OA.mp hx).2
  have h1:0<B (xs++[x]):=by simpa using h1
  rw[e,fQ] at s
  have:=zC (B:=B) (xs:=xs) (l:=l) fun y hy=>C.left b y (gJ (by rw[e];exact ox _ hy))
  lia
noncomputable def tpI (b:List Int):D:=.tup (b.map D.int)
noncomputable def zrL:Nat->List Int
 | 0=>[1]
 | 1=>[0,1]
 | 2=>[1,1,0]
 | 3=>[0,1,2,2]
 | 4=>[5,5,4,2,0]
 | 5=>[0,5,10,14,16,16]
 | 6=>[61,61,56,46,32,16,0]
 | 7=>[0,61,122,178,224,256,272,272]
 | 8=>[1385,1385,1324,1202,1024,800,544,272,0]
 | 9=>[0,1385,2770,4094,5296,6320,7120,7664,7936,7936]
 | 10=>[50521,50521,49136,46366,42272,36976,30656,23536,15872,7936,0]
 | 11=>[0,50521,101042,150178,196544,238816,275792,306448,329984,345856,353792,353792]
 | 12=>[2702765,2702765,2652244,2551202,2401024,2204480,1965664,1689872,1383424,1053440,707584,353792,0]
 | 13=>[0,2702765,5405530,8057774,10608976,13010000,15214480,17180144,18870016,20253440,21306880,22014464,22368256,22368256]
 | 14=>[199360981,199360981,196658216,191252686,183194912,172585936,159575936,144361456,127181312,108311296,88057856,66750976,44736512,22368256,0]
 | 15=>[0,199360981,398721962,595380178,786632864,969827776,1142413712,1301989648,1446351104,1573532416,1681843712,1769901568,1836652544,1881389056,1903757312,1903757312]
 | 16=>[19391512145,19391512145,19192151164,18793429202,18198049024,17411416160,16441588384,15299174672,13997185024,12550833920,10977301504,9295457792,7525556224,5688903680,3807514624,1903757312,0]
 | 17=>[0,19391512145,38783024290,57975175454,76768604656,94966653680,112378069840,128819658224,144118832896,158116017920,170666851840,181644153344,190939611136,198465167360,204154071040,207961585664,209865342976,209865342976]
 | 18=>[2404879675441,2404879675441,2385488163296,2346705139006,2288729963552,2211961358896,2116994705216,2004616635376,1875796977152,1731678144256,1573562126336,1402895274496,1221251121152,1030311510016,831846342656,627692271616,419730685952,209865342976,0]
 | 19=>[0,2404879675441,4809759350882,7195247514178,9541952653184,11830682616736,14042643975632,16159638680848,18164255316224,20040052293376,21771730437632,23345292563968,24748187838464,25969438959616,26999750469632,27831596812288,28459289083904,28879019769856,29088885112832,29088885112832]
 | _=>[]
theorem zt0 (h:Hh):aC [.int 1] h=.ok (.frl ((zrL 0).map D.int)) h:=by kernel_rfl
theorem zt1 (h:Hh):aC [.int 2] h=.ok (.frl ((zrL 1).map D.int)) h:=by kernel_rfl
theorem zt2 (h:Hh):aC [.int 3] h=.ok (.frl ((zrL 2).map D.int)) h:=by kernel_rfl
theorem zt3 (h:Hh):aC [.int 4] h=.ok (.frl ((zrL 3).map D.int)) h:=by kernel_rfl
theorem zt4 (h:Hh):aC [.int 5] h=.ok (.frl ((zrL 4).map D.int)) h:=by kernel_rfl
theorem zt5 (h:Hh):aC [.int 6] h=.ok (.frl ((zrL 5).map D.int)) h:=by kernel_rfl
theorem zt6 (h:Hh):aC [.int 7] h=.ok (.frl ((zrL 6).map D.int)) h:=by kernel_rfl
theorem zt7 (h:Hh):aC [.int 8] h=.ok (.frl ((zrL 7).map D.int)) h:=by kernel_rfl
theorem zt8 (h:Hh):aC [.int 9] h=.ok (.frl ((zrL 8).map D.int)) h:=by kernel_rfl
theorem zt9 (h:Hh):aC [.int 10] h=.ok (.frl ((zrL 9).map D.int)) h:=by kernel_rfl
theorem Mr (h:Hh):aC [.int 11] h=.ok (.frl ((zrL 10).map D.int)) h:=by kernel_rfl
theorem Ll (h:Hh):aC [.int 12] h=.ok (.frl ((zrL 11).map D.int)) h:=by kernel_rfl
theorem Mu (h:Hh):aC [.int 13] h=.ok (.frl ((zrL 12).map D.int)) h:=by kernel_rfl
theorem LD (h:Hh):aC [.int 14] h=.ok (.frl ((zrL 13).map D.int)) h:=by kernel_rfl
theorem Lo (h:Hh):aC [.int 15] h=.ok (.frl ((zrL 14).map D.int)) h:=by kernel_rfl
theorem Mz (h:Hh):aC [.int 16] h=.ok (.frl ((zrL 15).map D.int)) h:=by kernel_rfl
theorem Mk (h:Hh):aC [.int 17] h=.ok (.frl ((zrL 16).map D.int)) h:=by kernel_rfl
theorem MH (h:Hh):aC [.int 18] h=.ok (.frl ((zrL 17).map D.int)) h:=by kernel_rfl
theorem LH (h:Hh):aC [.int 19] h=.ok (.frl ((zrL 18).map D.int)) h:=by kernel_rfl
theorem Lp (h:Hh):aC [.int 20] h=.ok (.frl ((zrL 19).map D.int)) h:=by kernel_rfl
theorem B3 (n:Nat) (hn:n<20) (h:Hh):aC [.int ((n:Int)+1)] h=.ok (.frl ((zrL n).map D.int)) h:=by
 match n,hn with
 | 0,_=>exact zt0 h
 | 1,_=>exact zt1 h
 | 2,_=>exact zt2 h
 | 3,_=>exact zt3 h
 | 4,_=>exact zt4 h
 | 5,_=>exact zt5 h
 | 6,_=>exact zt6 h
 | 7,_=>exact zt7 h
 | 8,_=>exact zt8 h
 | 9,_=>exact zt9 h
 | 10,_=>exact Mr h
 | 11,_=>exact Ll h
 | 12,_=>exact Mu h
 | 13,_=>exact LD h
 | 14,_=>exact Lo h
 | 15,_=>exact Mz h
 | 16,_=>exact Mk h
 | 17,_=>exact MH h
 | 18,_=>exact LH h
 | 19,_=>exact Lp h
 | n+20,hn=>exact absurd hn (by lia)
noncomputable def odd (i:Nat):Bool:=decide (i % 2=1)
theorem Kd (n:Nat) (hn:n<20) (h:Hh):bN [.int ((n:Int)+1)] h=.ok (.tup ((aP (n+1) odd).map D.int)) h:=by
 match n,hn with
 | 0,_=>kernel_rfl
 | 1,_=>kernel_rfl
 | 2,_=>kernel_rfl
 | 3,_=>kernel_rfl
 | 4,_=>kernel_rfl
 | 5,_=>kernel_rfl
 | 6,_=>kernel_rfl
 | 7,_=>kernel_rfl
 | 8,_=>kernel_rfl
 | 9,_=>kernel_rfl
 | 10,_=>kernel_rfl
 | 11,_=>kernel_rfl
 | 12,_=>kernel_rfl
 | 13,_=>kernel_rfl
 | 14,_=>kernel_rfl
 | 15,_=>kernel_rfl
 | 16,_=>kernel_rfl
 | 17,_=>kernel_rfl
 | 18,_=>kernel_rfl
 | 19,_=>kernel_rfl
 | n+20,hn=>exact absurd hn (by lia)
noncomputable def frN (n:Nat) (k:Nat->Bool):Bool:=Nat.rec (k 0) (fun m _=>k (m+1)) n
theorem GU (n:Nat) (k:Nat->Bool):frN n k=k n:=by cases n<;>rfl
noncomputable def frI (x:Int) (k:Int->Bool):Bool:=match x with
 | .ofNat n=>frN n fun m=>k (.ofNat m)
 | .negSucc n=>k (.negSucc n)
theorem HS (x:Int) (k:Int->Bool):frI x k=k x:=by
 cases x with
 | ofNat n=>exact GU n fun m=>k (.ofNat m)
 | negSucc n=>rfl
noncomputable def frL:List Int->(List Int->Bool)->Bool
 | [],k=>k []
 | x::xs,k=>frI x fun y=>frL xs fun ys=>k (y::ys)
theorem BW:∀(l:List Int) (k:List Int->Bool),frL l k=k l
 | [],k=>rfl
 | x::xs,k=>by unfold frL;rw[HS,BW]
noncomputable def AQ (n:Nat) (fl:Nat->Bool) (m:Nat) (row:List Int):List Int:=(ND (m+2)).map fun l=>if fl (n - 2 - m)=true then (row.take l).sum else (row.drop l).sum
theorem Dh {n:Nat}{fl:Nat->Bool}{m:Nat}:AQ n fl m (cI n fl m)=cI n fl (m+1):=by
 unfold AQ
 show _=(ND (m+2)).map _
 refine Ow fun l hl=>?_
 have hl:=N3.mp hl
 by_cases c:fl (n - 2 - m)=true
 ·rw[if_pos c,yY (by lia) c]
 ·rw[if_neg c,zi (by lia) (by simpa using c)]
noncomputable def CY (n:Nat) (fl:Nat->Bool) (v:Int):Nat->Nat->List Int->Bool
 | 0,_,row=>decide (row.sum=v)
 | j+1,m,row=>frL (AQ n fl m row) fun row'=>CY n fl v j (m+1) row'
theorem yh {n:Nat}{fl:Nat->Bool}{v:Int}:∀(j m:Nat),CY n fl v j m (cI n fl m)=true->(cI n fl (m+j)).sum=v
 | 0,m,h=>by simpa [CY] using h
 | j+1,m,h=>by
  unfold CY at h
  rw[BW,Dh] at h
  have:=yh j (m+1) h
  rwa [show m+1+j=m+(j+1) by lia] at this
theorem D5:∀n,n<20->CY (n+1) odd (zrL n).sum n 0 [1]=true:=by decide +kernel
theorem BH {n:Nat} (hn:n<20):(zrL n).sum=jcV (n+1) odd []:=by
 have:=yh (n:=n+1) (fl:=odd) n 0 (D5 n hn)
 rw[<- this,Pz,pq]
 rfl
theorem yN {n:Nat} (h1:1<=n) (hn:n<=20) (h:Hh):cq [.int n] h=.ok (.int (jcV n odd [])) h:=by
 obtain⟨k,rfl⟩:∃k,n=k+1:=⟨n - 1,by lia⟩
 have q:=B3 k (by lia) h
 rw[<- BH (by lia)]
 rw[show((k+1:Nat):Int)=(k:Int)+1 by lia]
 simp[cq,aV,q]
theorem w_ {n:Nat} (h1:1<=n) (hn:n<=20) (h:Hh):bN [.int n] h=.ok (.tup ((aP n odd).map D.int)) h:=by
 obtain⟨k,rfl⟩:∃k,n=k+1:=⟨n - 1,by lia⟩
 exact Kd k (by lia) h
theorem KS {n:Nat}{t:Int}{h:Hh} (h1:1<=n) (hn:n<=20) (t0:0<=t) (t1:t<jcV n odd []):dN [.int n,.int t] h=.ok (.tup ((grd n (jcV n odd) n [] t).1.map D.int)) h:=by
 have zm:=yN h1 hn h
 have z2:(0:Int)<=t/\t<=jcV n odd [] - 1:=by lia
 have nn:=kF (h:=h) z2
 have od:=w_ h1 hn h
 have jc:=pA (n:=n) (fl:=odd) (h:=h) h1 hn
 have e:=GP (h:=h) (oE odd h1) (CM h1 hn) (by lia) t0 t1
 generalize jcV n odd []=V at *
 generalize (grd n (jcV n odd) n [] t).1.map D.int=X at *
 generalize jrD n odd n=W at *
 generalize (aP n odd).map D.int=S at *
 simp[dN,aV,zm,nn,od,jc,e]
theorem G3 {n:Nat}{os:List Int}{h:Hh} (h1:1<=n) (hn:n<=20) (o:Ord n os) (hf:aY os=aP n odd) (w:Wf h):cM [.tup (os.map D.int)] h=.ok (.int (rkL n (jcV n odd) [] os)) h:=by
 have a:=lK o h1 hn w
 have f:=jf (xs:=os) (h:=h) (by rw[o.len];lia)
 have od:=w_ h1 hn h
 have jc:=pA (n:=n) (fl:=odd) (h:=h) h1 hn
 have e:=EO (h:=h) (oE odd h1) (CM h1 hn) (by lia) o
 have l:(((os.map D.int).length:Nat):Int)=n:=by rw[NJ,o.len]
 have eq:=Bn (h:=h) (xs:=aY os) (ys:=aP n odd)
 rw[hf] at eq f
 rw[decide_eq_true rfl] at eq
 generalize jrD n odd n=W at *
 generalize (aP n odd).map D.int=S at *
 generalize os.map D.int=X at *
 simp[cM,di,b9,aV,a,f,od,jc,e,l,eq]
theorem rW {a:Int}{h:Hh}:bY [.tup [.int a]] h=.ok (.int a) h:=by
 have ix:∀H:Hh,ixK [D.int a] (-1) H=.ok (.int a) H:=fun H=>rfl
 have c:cx (av asB (ao dLt (af 0) (ao dIx (af 1) (cUn h8 (cC (.int 1)))))) (af 0) (fun x=>[some x,some (.tup [.int a])]) [.int a] h=.ok [] h:=by
  rw[cx]
  simp[ix,cx]
 simp[bY,aV,ix,c]
theorem pI {a:Int}{h:Hh}:bU [.tup [.int a]] h=.ok (.tup []) h:=by
 have c:∀(tt:MT) (te:ME) (ee:D->En),cx tt te ee (cX 0 0) h=.ok [] h:=fun _ _ _=>rfl
 simp[bU,aV,c]
theorem yZ {n:Nat}{k a:Int}{h:Hh} (h1:1<=n) (hn:n<=12) (a0:0<=a) (a1:a<n):bX [.frl (rsD n),.int k,.tup [.int a]] h=.ok (.int (Rn (n - 1) a k)) h:=by
 have r1:ixK (rsD n) ((n:Int) - 1) h=.ok (f2 (c5 (n - 1))) h:=Cf (by lia) (by lia)
 have r2:dIx (f2 (c5 (n - 1))) (.int a) h=.ok (f1 (cS (n - 1) a)) h:=by
  show ixK ((c5 (n - 1)).map f1) a h=_
  refine iK (j:=a.toNat) (by lia) ?_
  rw[NU,c5,NU,Pj (by lia)]
  show some (f1 (cS (n - 1) ((a.toNat:Nat):Int)))=_
  rw[show((a.toNat:Nat):Int)=a by lia]
 have ll:b_ [f1 (cS (n - 1) a)] h=.ok (.int (n:Int)) h:=by
  show R.ok (D.int (((cS (n - 1) a).map D.int).length:Int)) h=_
  rw[NJ,fS]
  congr 2
  lia
 have lr:(rsD n).length=n+1:=nI n
 have zn:((n+1:Nat):Int) - 1 - 1=(n:Int) - 1:=by lia
 by_cases c:0<=k/\k<n
 ·have ix:dIx (f1 (cS (n - 1) a)) (.int k) h=.ok (.int (Rn (n - 1) a k)) h:=by
   show ixK ((cS (n - 1) a).map D.int) k h=_
   rw[eS (j:=k.toNat) (by lia) (by rw[fS];lia),kD (by lia),show((k.toNat:Nat):Int)=k by lia]
  generalize f1 (cS (n - 1) a)=W at *
  generalize f2 (c5 (n - 1))=V at *
  simp[-RI,bX,aV,lr,zn,r1,rW,r2,pI,ll,c.1,c.2,ix]
 ·have e0:Rn (n - 1) a k=0:=by
   by_cases c0:0<=k
   ·exact pL _ _ _ (by lia)
   ·exact oF _ _ _ (by lia)
  rw[e0]
  generalize f1 (cS (n - 1) a)=W at *
  generalize f2 (c5 (n - 1))=V at *
  by_cases c0:0<=k
  ·have c1:¬ k<n:=fun z=>c ⟨c0,z⟩
   simp[-RI,bX,aV,lr,zn,r1,rW,r2,pI,ll,c0,c1]
  ·simp[-RI,bX,aV,lr,zn,r1,rW,r2,pI,ll,c0]
theorem xM {n:Nat}{k a:Int}{h:Hh} (h1:1<=n) (hn:n<=12) (k0:0<=k) (k1:k<=12) (a0:0<=a) (a1:a<n):cj [.int n,.int k,.int a] h=.ok .non h:=by
 have z1:1<=(n:Int)/\(n:Int)<=12:=by lia
 have z2:a<=(n:Int) - 1:=by lia
 simp[cj,b8,aV,z1,k0,k1,a0,z2]
theorem nv {n:Nat}{k a:Int}{h:Hh} (h1:1<=n) (hn:n<=12) (k0:0<=k) (k1:k<=12) (a0:0<=a) (a1:a<n) (w:Wf h):aK [.int n,.int k,.int a] h=.ok (.int (Rn (n - 1) a k)) h:=by
 simp[aK,aV,xM (h:=h) h1 hn k0 k1 a0 a1,k7 (h:=h) hn w,yZ (h:=h) h1 hn a0 a1]
theorem A2 {n:Nat}{k a:Int}{h:Hh} (h1:1<=n) (hn:n<=12) (k0:0<=k) (k1:k<=12) (a0:0<=a) (a1:a<n) (w:Wf h):bJ [.int n,.int k,.int a] h=.ok (.int (Rn (n - 1) a ((n:Int) - 1 - k))) h:=by
 simp[bJ,aV,xM (h:=h) h1 hn k0 k1 a0 a1,k7 (h:=h) hn w,yZ (h:=h) h1 hn a0 a1]
noncomputable def rkI (xs:List Int) (b:Int):Int:=b - ((xs.filter fun x=>decide (x<b)).length:Int)
noncomputable def ebV (n:Nat) (k a b:Int) (xs:List Int):Int:=if xs.length=0 then Eb n k a b else if gI xs 0=a/\b∉xs.dropLast then Eb (n+1 - xs.length) (k - ((aY xs).length:Int)) (lwI xs) (rkI xs.dropLast b) else 0
theorem Bl {n:Nat}{k a b:Int}:0<=Eb n k a b:=by
 unfold Eb
 split
 ·split<;>lia
 ·split
  ·lia
  ·exact(FQ _ _ _).1
theorem KJ {n:Nat}{k a b:Int}{xs:List Int}:0<=ebV n k a b xs:=by
 unfold ebV
 split
 ·exact Bl
 ·split
  ·exact Bl
  ·lia
theorem yK {n:Nat}{xs:List Int}{v:Int} (b:Beg n xs) (h0:0<=v) (h1:v<n):rkI xs v=(((aI n xs).filter fun x=>decide (x<v)).length:Int):=by
 have:=nG b v.toNat (by lia)
 rw[show((v.toNat:Nat):Int)=v by lia] at this
 have e1:gr (fun x=>!(xs.any (· == x))&&decide (x<v)) (gi 0 n)=((aI n xs).filter fun x=>decide (x<v)).length:=by
  unfold gr aI
  rw[Pq]
  congr 2
  funext x
  exact Se _ _
 have e2:gr (fun x=>true&&decide (x<v)) xs=(xs.filter fun x=>decide (x<v)).length:=by
  unfold gr;simp
 unfold rkI
 lia
theorem jE {xs:List Int} (h:xs.length≠0):xs.dropLast++[aR xs]=xs:=by
 have h0:xs≠[]:=fun z=>h (by rw[z];rfl)
 have e:aR xs=xs.getLast h0:=by
  unfold aR
  rw[dS (by lia),List.getLast_eq_getElem]
 rw[e]
 exact List.dropLast_concat_getLast h0
theorem oY {xs:List Int}{v:Int} (h:xs.length≠0):rkI xs.dropLast v=rkI xs v+(if aR xs<v then 1 else 0):=by
 have e:(xs.filter fun x=>decide (x<v))=(xs.dropLast.filter fun x=>decide (x<v))++([aR xs].filter fun x=>decide (x<v)):=by
  rw[<- Q4,jE h]
 unfold rkI
 rw[e,N2,OP]
 generalize aR xs=l
 by_cases c:l<v<;>simp[c]<;>lia
theorem FU {xs:List Int} (h:xs.length≠0):lwI xs=rkI xs (aR xs):=by
 unfold lwI rkI;rw[if_neg h]
theorem og {n:Nat}{xs:List Int}{b:Int} (h0:0<=b) (h1:b<n) (h:b∉xs):b∈aI n xs:=by
 refine OA.mpr ⟨Oi.mpr ⟨b.toNat,N3.mpr (by lia),by lia⟩,?_⟩
 have:xs.any (· == b)=false:=by
  rw[Rb];intro x hx z;exact h (beq_iff_eq.mp z ▸ hx)
 rw[this];rfl
theorem EZ {n r:Nat}{xs:List Int}{x:Int} (b:Beg n xs) (hr:r<(aI n xs).length) (hx':(aI n xs)[r]=x):lwI (xs++[x])=r/\((aY (xs++[x])).length:Int)=((aY xs).length:Int)+lss r (lwI xs):=by
 have so:=jK n xs
 have xin:x∈aI n xs:=hx' ▸ Qp hr
 have b2:=b.snoc xin
 constructor
 ·rw[<- h_ b2 (by simp),rB,rG,Pq]
  have:((aI n xs).filter fun y=>decide (y<x)&&!(x == y))=(aI n xs).filter fun y=>decide (y<x):=PC fun y _=>by
   by_cases c:y<x
   ·have:¬ x=y:=by lia
    simp[c,this]
   ·simp[c]
  rw[this]
  have:=yH so r hr
  rw[hx'] at this
  lia
 ·rw[wM]
  by_cases c:xs.length=0
  ·have:lwI xs=0:=if_pos c
   rw[this]
   have:lss r 0=0:=if_neg (by lia)
   rw[this]
   simp[c]
  ·rw[<- h_ b c]
   have:=oB (v:=aR xs) so r hr
   rw[hx'] at this
   unfold lss
   by_cases d:x<aR xs
   ·have:=this.mp d
    rw[if_pos ⟨c,d⟩,if_pos (by lia)];lia
   ·have:¬ r<((aI n xs).filter fun x=>decide (x<aR xs)).length:=fun z=>d (this.mpr z)
    rw[if_neg (fun z=>d z.2),if_neg (by lia)];lia
theorem zA {V a:Int} (a0:0<=a):∀n:Nat,sg (fun i=>if (i:Int)=a then V else 0) n=if a<n then V else 0
 | 0=>by rw[zT,if_neg (by lia)]
 | n+1=>by
  rw[nc,zA a0 n]
  by_cases c:(n:Int)=a
  ·rw[if_neg (by lia),if_pos c,if_pos (by lia)];lia
  ·by_cases d:a<(n:Int)
   ·rw[if_pos d,if_neg c,if_pos (by lia)];lia
   ·rw[if_neg d,if_neg c,if_neg (by lia)];lia
theorem IU {L:List Int}{f:Int->Int} (h:∀x∈L,f x=0):(L.map f).sum=0:=by
 induction L with
 | nil=>rfl
 | cons x L ih=>rw[NV,Sd,h x NG,ih fun y hy=>h y (ox _ hy)];rfl
theorem t5 {n:Nat}{k a b x:Int}{xs:List Int} (h:xs.length≠0):ebV n k a b (xs++[x])=if gI xs 0=a/\b∉xs then Eb (n - xs.length) (k - ((aY (xs++[x])).length:Int)) (lwI (xs++[x])) (rkI xs b) else 0:=by
 unfold ebV
 rw[if_neg (by simp),ik (by lia),List.dropLast_concat,N2]
 show(if _ then Eb (n+1 - (xs.length+1)) _ _ _ else _)=_
 rw[show n+1 - (xs.length+1)=n - xs.length by lia]
theorem Fo {n:Nat}{k a:Int} (h:n≠1):Eb n k a a=0:=by unfold Eb;rw[if_neg h,if_pos rfl]
theorem Dc {n:Nat}{k a b:Int} (a0:0<=a) (a1:a<n) (b0:0<=b) (b1:b<n):Cnt n (ebV n k a b):=by
 refine⟨fun xs _=>KJ,fun xs bg hl=>?_⟩
 by_cases c:xs.length=0
 ·have:xs=[]:=O2 c
  subst this
  have e1:ebV n k a b []=Eb n k a b:=if_pos rfl
  have el:aI n []=gi 0 n:=by unfold aI;simp
  rw[e1,el]
  have e2:∀x:Int,ebV n k a b ([]++[x])=if x=a then Eb n k a b else 0:=fun x=>by
   unfold ebV
   have l0:lwI [x]=x:=by
    unfold lwI aR
    simp[gI]
   have g0:gI [x] 0=x:=rfl
   have f0:aY [x]=[]:=rfl
   simp only[PJ]
   rw[if_neg (by simp),g0,l0,f0]
   show(if x=a/\b∉([]:List Int) then Eb n (k - 0) x (b - 0) else 0)=_
   by_cases z:x=a
   ·subst z;simp
   ·simp[z]
  have e3:((gi 0 n).map fun x=>ebV n k a b ([]++[x])).sum=sg (fun(i:Nat)=>if (i:Int)=a then Eb n k a b else 0) n:=by
   unfold gi sg
   rw[ON]
   congr 1
   refine Ow fun i _=>?_
   show ebV n k a b ([]++[0+(i:Int)])=_
   rw[e2,Sz]
  rw[e3,zA a0 n,if_pos a1]
 ·by_cases ha:gI xs 0=a
  ·by_cases hb:b∈xs
   ·rw[IU fun x _=>by rw[t5 c,if_neg (fun z=>z.2 hb)]]
    unfold ebV
    rw[if_neg c]
    by_cases hd:b∈xs.dropLast
    ·rw[if_neg (fun z=>z.2 hd)]
    ·rw[if_pos ⟨ha,hd⟩]
     have e:b=aR xs:=by
      rw[<- jE c] at hb
      rcases Oe.mp hb with z | z
      ·exact absurd z hd
      ·simpa using z
     have:rkI xs.dropLast b=lwI xs:=by
      rw[FU c,oY c,e,if_neg (by lia)];lia
     rw[this,Fo (by lia)]
   ·have hd:b∉xs.dropLast:=fun z=>hb (by rw[<- jE c];exact QH _ z)
    have ll:=eO bg
    obtain⟨m,hm⟩:∃m,n - xs.length=m+1:=⟨n - xs.length - 1,by lia⟩
    rw[hm] at ll
    have so:=jK n xs
    obtain⟨s,hs⟩:∃s:Nat,((aI n xs).filter fun x=>decide (x<b)).length=s:=⟨_,rfl⟩
    obtain⟨t,ht⟩:∃t:Nat,((aI n xs).filter fun x=>decide (x<aR xs)).length=t:=⟨_,rfl⟩
    have er:rkI xs b=s:=by rw[yK bg b0 b1,hs]
    have ew:lwI xs=t:=by rw[<- h_ bg c,ht]
    have ld:rkI xs.dropLast b=rkI xs b+(if aR xs<b then 1 else 0):=oY c
    have lb:=yB c
    have nl:aR xs≠b:=fun z=>hb (z ▸ lb)
    have bl:=og b0 b1 hb
    obtain⟨j,hj,ej⟩:=O6 bl
    have js:=yH so j hj
    rw[ej,hs] at js
    have ji:=oB (v:=aR xs) so j hj
    rw[ej,ht] at ji
    have ti:t<=m+1:=by rw[<- ht,<- ll];exact O_ _ _
    have mono:aR xs<b->t<=s:=fun z=>by
     rw[<- ht,<- hs,<- List.countP_eq_length_filter,<- List.countP_eq_length_filter]
     exact List.countP_mono_left fun x _ hx=>by simp at hx ⊢;lia
    have lt:ltI (lwI xs) (rkI xs.dropLast b)=if aR xs<b then 1 else 0:=by
     unfold ltI
     rw[ew,ld,er]
     by_cases z:aR xs<b
     ·have:=mono z
      rw[if_pos z,if_pos (by lia)]
     ·have:=ji.mp (by lia)
      rw[if_neg z,if_neg (by lia)]
    have ne:lwI xs≠rkI xs.dropLast b:=by
     rw[ew,ld,er]
     by_cases z:aR xs<b
     ·have:=mono z
      rw[if_pos z];lia
     ·have:=ji.mp (by lia)
      rw[if_neg z];lia
    have e0:ebV n k a b xs=Eb (m+2) (k - ((aY xs).length:Int)) (lwI xs) (rkI xs.dropLast b):=by
     unfold ebV
     rw[if_neg c,if_pos ⟨ha,hd⟩,show n+1 - xs.length=m+2 by lia]
    rw[e0,EM (by lia) (by rw[ew];lia) (by rw[ew];lia) (by rw[ld,er];split<;>lia) (by rw[ld,er];split<;>lia) ne,lt,show rkI xs.dropLast b - (if aR xs<b then 1 else 0)=rkI xs b by rw[ld];lia,t6,ll]
    unfold sg
    congr 1
    refine Ow fun r hr=>?_
    have hr:=N3.mp hr
    have hr':r<(aI n xs).length:=by lia
    obtain⟨x,hx⟩:∃x,gI (aI n xs) r=x:=⟨_,rfl⟩
    rw[hx]
    have hx':(aI n xs)[r]=x:=by rw[<- hx,dS hr']
    obtain⟨q1,q2⟩:=EZ bg hr' hx'
    rw[t5 c,if_pos ⟨ha,hb⟩,q1,q2,hm]
    congr 1
    lia
  ·rw[IU fun x _=>by rw[t5 c,if_neg (fun z=>ha z.1)]]
   unfold ebV
   rw[if_neg c,if_neg (fun z=>ha z.1)]
theorem Gm {n:Nat}{xs:List Int}{b:Int} (bg:Beg n xs) (l:xs.length=n) (h0:0<=b) (h1:b<n):b∈xs:=by
 by_cases c:b∈xs
 ·exact c
 ·have:=List.length_pos_of_mem (og h0 h1 c)
  rw[eO bg] at this;lia
theorem Ce {n:Nat}{xs:List Int}{b:Int} (bg:Beg n xs) (l:xs.length=n) (h0:0<=b) (h1:b<n):b∉xs.dropLast↔aR xs=b:=by
 have c:xs.length≠0:=by lia
 have e:=jE c
 have m:=Gm bg l h0 h1
 have nd:=bg.nd
 rw[<- e] at m nd
 obtain⟨_,_,n3⟩:=List.nodup_append.mp nd
 constructor
 ·intro h
  rcases Oe.mp m with z | z
  ·exact absurd z h
  ·simp at z;exact z.symm
 ·intro h z
  exact n3 b z (aR xs) (by simp) h.symm
theorem x8 {n:Nat}{k a b:Int}{xs:List Int} (bg:Beg n xs) (l:xs.length=n) (h0:0<=b) (h1:b<n):ebV n k a b xs=if gI xs 0=a/\aR xs=b/\((aY xs).length:Int)=k then 1 else 0:=by
 unfold ebV
 rw[if_neg (by lia),show n+1 - xs.length=1 by lia]
 have d:=Ce bg l h0 h1
 by_cases c1:gI xs 0=a
 ·by_cases c2:aR xs=b
  ·rw[if_pos ⟨c1,d.mpr c2⟩]
   unfold Eb
   rw[if_pos rfl]
   by_cases c3:((aY xs).length:Int)=k
   ·rw[if_pos (by lia),if_pos ⟨c1,c2,c3⟩]
   ·rw[if_neg (by lia),if_neg (fun z=>c3 z.2.2)]
  ·rw[if_neg (fun z=>c2 (d.mp z.2)),if_neg (fun z=>c2 z.2.1)]
 ·rw[if_neg (fun z=>c1 z.1),if_neg (fun z=>c1 z.1)]
theorem zD {N s:Nat}{k a b:Int}{h:Hh} (h1:1<=s) (hs:s<=N+1) (hN:N<=12) (a0:0<=a) (a1:a<s) (b0:0<=b) (b1:b<s):br [.frl (rsD N),.int s,.int k,.int a,.int b] h=.ok (.int (Eb s k a b)) h:=by
 unfold Eb
 by_cases c1:s=1
 ·subst c1
  by_cases ck:k=0<;>simp[br,aV,ck]
 ·have c1':¬ (s:Int)=1:=by lia
  rw[if_neg c1]
  by_cases c2:a=b
  ·rw[if_pos c2];simp[br,aV,c1,c1',c2]
  ·rw[if_neg c2]
   have npos:(0:Int)<s:=by lia
   have mo:0<=(a - b - 1) % (s:Int)/\(a - b - 1) % (s:Int)<s:=⟨RH _ (by lia),RO _ npos⟩
   have mo2:(a - b - 1) % (s:Int)<(s:Int) - 1:=by
    have:=jJ (a:=a - b - 1) (n:=s) (by lia) (by lia)
    rw[this];split<;>lia
   obtain⟨c,hc⟩:∃c:Int,(a - b - 1) % (s:Int)=c:=⟨_,rfl⟩
   rw[hc] at mo mo2 ⊢
   have r1:ixK (rsD N) ((s:Int) - 2) h=.ok (f2 (c5 (s - 2))) h:=Cf (by lia) (by lia)
   have r2:dIx (f2 (c5 (s - 2))) (.int c) h=.ok (f1 (cS (s - 2) c)) h:=by
    show ixK ((c5 (s - 2)).map f1) c h=_
    refine iK (j:=c.toNat) (by lia) ?_
    rw[NU,c5,NU,Pj (by lia)]
    show some (f1 (cS (s - 2) ((c.toNat:Nat):Int)))=_
    rw[show((c.toNat:Nat):Int)=c by lia]
   have ll:b_ [f1 (cS (s - 2) c)] h=.ok (.int ((s:Int) - 1)) h:=by
    show R.ok (D.int (((cS (s - 2) c).map D.int).length:Int)) h=_
    rw[NJ,fS]
    congr 2
    lia
   have n0:¬ s=0:=by lia
   have n0':0<s:=by lia
   obtain⟨f,hf⟩:∃f:Int,k - (if b<a then 1 else 0)=f:=⟨_,rfl⟩
   rw[hf]
   have fin:(0<=f/\f<(s:Int) - 1->dIx (f1 (cS (s - 2) c)) (.int f) h=.ok (.int (Rn (s - 2) c f)) h):=fun z=>by
    show ixK ((cS (s - 2) c).map D.int) f h=_
    rw[eS (j:=f.toNat) (by lia) (by rw[fS];lia),kD (by lia),show((f.toNat:Nat):Int)=f by lia]
   have out:¬ (0<=f/\f<(s:Int) - 1)->Rn (s - 2) c f=0:=fun z=>by
    by_cases z0:0<=f
    ·exact pL _ _ _ (by lia)
    ·exact oF _ _ _ (by lia)
   generalize f1 (cS (s - 2) c)=W at *
   generalize f2 (c5 (s - 2))=V at *
   have st:(cIf (av asB (ao dLt (af 3) (af 4))) (af 2) (ao a9 (af 2) (cC (.int 1)))) [some (.frl (rsD N)),some (.int s),some (.int k),some (.int a),some (.int b),none,none] h=.ok (.int f) h:=by
    by_cases cl:b<a
    ·have cl':¬ a<b:=by lia
     rw[if_pos cl] at hf
     simp[cl',hf]
    ·have cl':a<b:=by lia
     rw[if_neg cl,Int.sub_zero] at hf
     simp[cl',hf]
   have core:∀v,(cIf (av asB (iJ dLe dLt (cC (.int 0)) (af 5) (ah b_ (aa (af 6) ak)))) (ao dIx (af 6) (af 5)) (cC (.int 0))) [some (.frl (rsD N)),some (.int s),some (.int k),some (.int a),some (.int b),some (.int f),some W] h=.ok (.int v) h->br [.frl (rsD N),.int s,.int k,.int a,.int b] h=.ok (.int v) h:=fun v e=>by
    clear out fin ll
    simp[br,aV,c1,c1',c2,st,n0,n0',hc,r1,r2,e,-L4]
   clear st r1 r2
   by_cases z0:0<=f
   ·by_cases z1:f<(s:Int) - 1
    ·exact core _ (by simp[ll,z0,z1,fin ⟨z0,z1⟩])
    ·rw[out (fun z=>z1 z.2)]
     exact core _ (by simp[ll,z0,z1])
   ·rw[out (fun z=>z0 z.1)]
    exact core _ (by simp[ll,z0])
theorem HG {xs:List Int}{v:Int}{h:Hh} (hl:xs.length<=1000):dq [.tup (xs.map D.int),.int v] h=.ok (.int (rkI xs v)) h:=by
 have q:cx (av asB (ao dLt (af 0) (af 1))) (af 0) (fun x=>[some x,some (.int v)]) (xs.map D.int) h=.ok ((xs.filter fun x=>decide (x<v)).map D.int) h:=
  comp_map D.int (fun x=>decide (x<v)) D.int xs fun x hx=>⟨by simp,fun _=>by simp⟩
 have z6:xs.length<=1000000:=by lia
 simp[dq,aV,q,z6,rkI]
theorem Cr {X:Type}{xs:List X} (h:xs.length≠0):jO xs none (some (-1))=xs.dropLast:=by
 unfold jO
 have e1:HT.sIx xs.length 0 none=0:=rfl
 have e2:HT.sIx xs.length xs.length (some (-1))=xs.length - 1:=by simp[HT.sIx];lia
 rw[e1,e2,SJ,Nat.sub_zero,List.dropLast_eq_take]
theorem BN {n:Nat}{xs:List Int}{b:Int} (c:xs.length≠0) (bg:Beg n xs) (b0:0<=b) (b1:b<n) (hb:b∉xs.dropLast):0<=rkI xs.dropLast b/\rkI xs.dropLast b<((n+1 - xs.length:Nat):Int):=by
 have bl:=bg.len
 have b2:Beg n xs.dropLast:=by rw[List.dropLast_eq_take];exact bg.take _
 have m:=og b0 b1 hb
 obtain⟨j,hj,ej⟩:=O6 m
 have js:=yH (jK n xs.dropLast) j hj
 rw[ej] at js
 rw[yK b2 b0 b1,js]
 rw[eO b2,List.length_dropLast] at hj
 lia
theorem Mw {n:Nat}{k a b:Int}{xs:List Int}{h:Hh} (hn:n<=12) (a0:0<=a) (a1:a<n) (b0:0<=b) (b1:b<n) (c:xs.length≠0) (bg:Beg n xs):bG [.frl (rsD n),.int k,.int a,.int b,.tup (xs.map D.int)] h=.ok (.int (ebV n k a b xs)) h:=by
 have bl:=bg.len
 have sl:(cY aF (af 4) cR (dY (cUn h8 (cC (.int 1))))) [some (.frl (rsD n)),some (.int k),some (.int a),some (.int b),some (.tup (xs.map D.int)),none,none,none] h=.ok (.tup (xs.dropLast.map D.int)) h:=by
  have:cutD (xs.map D.int) none (some (-1))=xs.dropLast.map D.int:=by
   show jO (xs.map D.int) none (some (-1))=_
   rw[Cr (by rw[NJ];exact c),List.map_dropLast]
  simp[this]
 have g0:ixK (xs.map D.int) 0 h=.ok (.int (gI xs 0)) h:=eS (j:=0) rfl (by lia)
 have lx:((xs.map D.int).length:Int)=(xs.length:Int):=by simp
 have lr:b_ [.frl (rsD n)] h=.ok (.int ((n:Int)+1)) h:=by
  show R.ok (D.int ((rsD n).length:Int)) h=_
  rw[nI];rfl
 have fa:=jf (xs:=xs) (h:=h) (by lia)
 have lf:b_ [.tup ((aY xs).map D.int)] h=.ok (.int ((aY xs).length:Int)) h:=by simp
 have r1:=fun v=>HG (xs:=xs.dropLast) (v:=v) (h:=h) (by rw[List.length_dropLast];lia)
 have il:=nU (h:=h) c
 have lw:rkI xs.dropLast (aR xs)=lwI xs:=by rw[FU c,oY c,if_neg (by lia)];lia
 have r2:=r1 (aR xs)
 rw[lw] at r2
 obtain⟨l0,l1⟩:=FG bg
 have sz:(n:Int)+1 - (xs.length:Int)=((n+1 - xs.length:Nat):Int):=by lia
 unfold ebV
 rw[if_neg c]
 have bin:(dIn false) (.int b) (.tup (xs.dropLast.map D.int)) h=.ok (.bl (xs.dropLast.any (· == b))) h:=by generalize xs.dropLast=S;simp
 by_cases ha:gI xs 0=a
 ·by_cases hb:b∈xs.dropLast
  ·have an:xs.dropLast.any (· == b)=true:=PY.mpr ⟨_,hb,by simp⟩
   rw[an] at bin
   rw[if_neg (fun z=>z.2 hb)]
   generalize xs.dropLast.map D.int=S at *
   generalize xs.map D.int=X at *
   simp[bG,aV,sl,g0,ha,bin,-s_]
  ·have an:xs.dropLast.any (· == b)=false:=by
    rw[Rb];intro x hx z;exact hb (beq_iff_eq.mp z ▸ hx)
   rw[an] at bin
   have ec:=zD (N:=n) (s:=n+1 - xs.length) (k:=k - ((aY xs).length:Int)) (a:=lwI xs) (b:=rkI xs.dropLast b) (h:=h) (by lia) (by lia) hn l0 (by lia) (BN c bg b0 b1 hb).1 (BN c bg b0 b1 hb).2
   rw[<- sz] at ec
   have r3:=r1 b
   rw[if_pos ⟨ha,hb⟩]
   generalize Eb (n+1 - xs.length) (k - ((aY xs).length:Int)) (lwI xs) (rkI xs.dropLast b)=V at *
   generalize rkI xs.dropLast b=RB at *
   generalize (aY xs).map D.int=F at *
   generalize ((aY xs).length:Int)=FL at *
   generalize (xs.length:Int)=L at *
   generalize xs.dropLast.map D.int=S at *
   generalize xs.map D.int=X at *
   generalize rsD n=RS at *
   simp[bG,aV,sl,g0,ha,bin,lr,lx,fa,lf,il,r2,r3,ec,-s_]
 ·rw[if_neg (fun z=>ha z.1)]
  generalize xs.dropLast.map D.int=S at *
  generalize xs.map D.int=X at *
  simp[bG,aV,sl,g0,ha,-s_]
theorem A6 (w:Wf h) (el:aH (h++t) (h.length+j)=some ds) (e:ds.all (deep 7)=true):eC h (.ref (h.length+j)) (h++t)=.ok (.frl ds) h:=by
 unfold eC
 rw[Su rfl,if_pos (show h.all (sD h.length)=true from w)]
 have:hZ h.length (h++t) 8 (.ref (h.length+j))=some (.frl ds):=by
  unfold hZ
  have:¬ (h.length+j<h.length):=by lia
  simp only[this,if_false,el]
  rw[NZ] at e
  rw[lz fun d hd=>g7 7 d (e d hd)];rfl
 rw[this]
theorem Df {L:List (List Int)}:(L.map tpI).all (deep (k+2))=true:=by
 rw[NZ];intro d hd
 obtain⟨x,_,rfl⟩:=Oi.mp hd
 simp[tpI]
theorem Cw {B:List Int->Int}:∀{L:List (List Int)},(∀xs∈L,0<B xs)->(L.length:Int)<=wsm B L
 | [],_=>by simp[wsm]
 | x::L,h=>by
  rw[kG,OO]
  have:=h x NG
  have:=Cw (L:=L) fun y hy=>h y (ox _ hy)
  lia
theorem Il (C:Cnt n B) (h0:0<B []) (hm:m<=n):((fll n B m).length:Int)<=B []:=by
 rw[<- tj C m hm];exact Cw (sJ h0 m)
theorem Ha (b:Beg n xs):(nxB n B xs).length<=n:=by
 have:=O_ (fun x=>decide (0<B (xs++[x]))) (aI n xs)
 rw[eO b] at this
 unfold nxB;lia
noncomputable abbrev exB (n:Nat) (B:List Int->Int) (xs:List Int):List (List Int):=(nxB n B xs).map fun x=>xs++[x]
theorem BF {M:List (List Int)}{ff:D->En}{H:Hh} (hf:∀e h,af 1 (ff e) h=.ok e h):∀(k j:Nat) (acc:List (List Int)),j+k=M.length->acc.length+k<=1000000->vD H.length (Src.snap (M.map tpI)).rdr (af 1) ff k j (H++[.lst (acc.map tpI)])=.ok () (H++[.lst ((acc++M.drop j).map tpI)])
 | 0,j,acc,e,_=>by
  unfold vD
  have:(Src.snap (M.map tpI)).rdr (H++[.lst (acc.map tpI)]) j=some none:=by
   simp only[Src.rdr]
   simp_all
  simp_all
 | k+1,j,acc,e,l=>by
  unfold vD
  have lt:j<M.length:=by lia
  have g:(Src.snap (M.map tpI)).rdr (H++[.lst (acc.map tpI)]) j=some (some (tpI M[j])):=by
   simp only[Src.rdr]
   simp_all
  rw[g]
  have a:AS H.length (tpI M[j]) (H++[.lst (acc.map tpI)])=.ok () (H++[.lst ((acc++[M[j]]).map tpI)]):=by
   unfold AS
   rw[f7]
   grind
  dsimp only
  rw[hf,eT,a,eT,BF hf k (j+1) _ (by lia) (by grind),Oh lt,Oj]
  rfl
noncomputable def MI2:MI:=(cw (ah bp (aa (af 2) (aa (af 0) (aa (af 3) ak)))))
theorem CB {n:Nat}{sr:Src}{B:List Int->Int}{C y:D}{L:List (List Int)}{H:Hh}{d2 d3:Option D} (c:i3 n B C) (hn:n<=12) (er:∀X i,sr.rdr (H++[.lst X]) i=some ((L.map tpI)[i]?)) (hb:∀b∈L,Beg n b):∀(k i:Nat) (acc:List (List Int)),i+k=L.length->acc.length+k*12<=1000000->sx H.length sr.rdr MI2 (af 1) (i4 [0,1] [some (.int n),some C,d2,d3]) k i (H++[.lst (acc.map tpI)])=.ok () (H++[.lst ((acc++(L.drop i).flatMap (exB n B)).map tpI)])
 | 0,i,acc,e,_=>by
  unfold sx
  simp_all
 | k+1,i,acc,e,l=>by
  have lt:i<L.length:=by lia
  unfold sx
  have g:sr.rdr (H++[.lst (acc.map tpI)]) i=some (some (tpI L[i])):=by simp_all
  rw[g]
  have bi:=hb _ (Qp lt)
  have cp:∀a b,i4 [0,1] [some (.int n),some C,d2,d3] a b=[a,b,some (.int n),some C]:=fun a b=>by rfl
  have nl:=Ha (B:=B) bi
  have mi:MI2 (i4 [0,1] [some (.int n),some C,d2,d3] (some (tpI L[i])) none) (H++[.lst (acc.map tpI)])=.ok (.snap ((exB n B L[i]).map tpI)) (H++[.lst (acc.map tpI)]):=by
   rw[cp]
   have lo:=lP (h:=H++[.lst (acc.map tpI)]) c bi (by lia)
   have e:((nxB n B L[i]).map fun x=>tpl (L[i]++[x]))=(exB n B L[i]).map tpI:=by rw[ON];rfl
   rw[e] at lo
   generalize (exB n B L[i]).map tpI=W at *
   simp only[tpI]
   generalize L[i].map D.int=X at *
   simp[MI2,lo]
  have fu:(Src.snap ((exB n B L[i]).map tpI)).fuel (H++[.lst (acc.map tpI)])=(exB n B L[i]).length:=by
   show((exB n B L[i]).map tpI).length=_
   simp
  have el:(exB n B L[i]).length<=12:=by grind
  have l2:acc.length+12+k*12<=1000000:=by lia
  dsimp only
  rw[mi,eT,fu]
  rw[BF (M:=exB n B L[i]) (ff:=fun e=>i4 [0,1] [some (.int n),some C,d2,d3] (some (tpI L[i])) (some e)) (fun e h=>by rfl) (exB n B L[i]).length 0 acc (by lia) (by lia),eT,SJ]
  have:=CB (y:=y) (d2:=d2) (d3:=d3) c hn er hb k (i+1) (acc++exB n B L[i]) (by lia) (by grind)
  rw[this,Oh lt,Rk,Oj]
noncomputable def Bk (H:Hh) (d:D) (L:List (List Int)):Prop:=∃sr,vE d H=.ok sr H/\sr.fuel H=L.length/\∀X i,sr.rdr (H++[.lst X]) i=some ((L.map tpI)[i]?)
theorem Ej (er:aH H r=some (L.map tpI)):Bk H (.ref r) L:=⟨.live r,Jf er,by simp[Src.fuel,er],fun X i=>by simp only[Src.rdr];rw[E4 er];rfl⟩
theorem DM:Bk H (.frl (L.map tpI)) L:=⟨.snap (L.map tpI),rfl,by simp[Src.fuel],fun X i=>rfl⟩
theorem Jq (c:i3 n B C) (hn:n<=12) (er:Bk H d L) (hb:∀b∈L,Beg n b) (hl:L.length<=10000):iG (cw (af 2)) [0,1] MI2 (af 1) [some (.int n),some C,some d,d3] H=.ok (.ref H.length) (H++[.lst ((L.flatMap (exB n B)).map tpI)]):=by
 obtain⟨sr,s1,f,rd⟩:=er
 unfold iG
 have s:cw (af 2) [some (.int n),some C,some d,d3] H=.ok sr H:=by
  simp_all
 have:=CB (y:=.non) (d2:=some d) (d3:=d3) c hn rd hb L.length 0 [] (by lia) (by grind)
 simp_all
theorem Ew (c:i3 n B C) (h1:1<=n) (hn:n<=12) (hL:∀m,m<=n->(fll n B m).length<=10000) (s0:Bk (h++T0) d0 [[]]):∃T j y,eM (gN 3) (aX 2 (iG (cw (af 2)) [0,1] MI2 (af 1))) (((ND n).map fun(i:Nat)=>D.int i)) [some (.int n),some C,some d0,none] (h++T0)=.ok (.nx [some (.int n),some C,some (.ref (h.length+j)),y]) (h++T)/\aH (h++T) (h.length+j)=some ((fll n B n).map tpI):=by
 obtain⟨s,lp,si⟩:=nA (σ:=Hh × D × Option D) (tg:=gN 3) (body:=(aX 2 (iG (cw (af 2)) [0,1] MI2 (af 1)))) (fun(i:Nat)=>D.int i) n (fun s=>[some (.int n),some C,some s.2.1,s.2.2]) (fun s=>h++s.1) (fun i s=>Bk (h++s.1) s.2.1 (fll n B i)/\(i≠0->∃j,s.2.1=.ref (h.length+j)/\aH (h++s.1) (h.length+j)=some ((fll n B i).map tpI))) (fun i s hi hs=>by
  obtain⟨T,d,y⟩:=s
  obtain⟨hs,_⟩:=hs
  dsimp only at hs ⊢
  have fl:=hL i (by lia)
  have q:=Jq (C:=C) (d3:=some (.int i)) c hn hs (fun b hb=>(eB i b hb).2) (by lia)
  have ln:aH (h++(T++[.lst ((fll n B (i+1)).map tpI)])) (h.length+T.length)=some ((fll n B (i+1)).map tpI):=by
   rw[<- Oj,<- N2]
   exact f7
  refine⟨(T++[.lst ((fll n B (i+1)).map tpI)],.ref (h.length+T.length),some (.int i)),⟨Ej ln,fun _=>⟨_,rfl,ln⟩⟩,?_⟩
  have e:fll n B (i+1)=(fll n B i).flatMap (exB n B):=rfl
  simp_all) n 0 (T0,d0,none) (by lia) ⟨s0,fun z=>absurd rfl z⟩
 obtain⟨T,d,y⟩:=s
 obtain⟨_,si⟩:=si
 obtain⟨j,e,l⟩:=si (by lia)
 dsimp only at e l lp
 subst e
 rw[<- Pt] at lp
 grind
theorem Cn {n:Nat}{B:List Int->Int}{C:D}{h:Hh} (c:i3 n B C) (h1:1<=n) (hn:n<=12) (hL:∀m,m<=n->(fll n B m).length<=10000) (w:Wf h):dm [.int n,C] h=.ok (.frl ((fll n B n).map tpI)) h:=by
 obtain⟨T,j,y,lp,si⟩:=Ew (h:=h) (T0:=[]) (d0:=.frl [tpI []]) c h1 hn hL (DM (L:=[[]]))
 rw[<- hG,P9] at lp
 have z2:(n:Int).natAbs<=1000000:=by lia
 have z3:n<=1000000:=by lia
 have ex:=A6 w si (Df (k:=5))
 have eq:dm=fun ds h=>((bR 4 (ay (aX 2 (ah (eX aF) (aa (ah gG ak) ak))) (ay (eN (dn eD (aa (af 0) ak)) (gN 3) (aX 2 (iG (cw (af 2)) [0,1] MI2 (af 1)))) (aM (af 2))))) ds h).bind (eC h):=rfl
 have t0:tpI []=.tup []:=rfl
 rw[t0] at lp
 rw[eq]
 generalize (fll n B n).map tpI=W at *
 generalize (aX 2 (iG (cw (af 2)) [0,1] MI2 (af 1)))=BD at *
 simp[aV,aF,z2,z3,lp,ex]
theorem wN {n:Nat}{B:List Int->Int} (C:Cnt n B) (h0:¬ 0<B []):∀m,m<n->fll n B (m+1)=[]
 | 0,h=>by
  show([[]]:List (List Int)).flatMap _=_
  rw[Rk,DX C (Beg.nil n) h h0];rfl
 | m+1,h=>by
  show(fll n B (m+1)).flatMap _=_
  rw[wN C h0 m (by lia)];rfl
theorem C1 (C:Cnt n B) (h3:B []<=300) (m) (hm:m<=n):(fll n B m).length<=300:=by
 by_cases c:0<B []
 ·have:=Il C c hm;lia
 ·cases m with
  | zero=>show 1<=300;lia
  | succ m=>rw[wN C c m hm];simp
noncomputable def TB:Nat->List (List Int)
 | 0=>[[1]]
 | 1=>[[1,0],[0,1]]
 | 2=>[[1,1,0],[0,2,0],[0,1,1]]
 | 3=>[[1,4,1,0],[0,4,2,0],[0,2,4,0],[0,1,4,1]]
 | 4=>[[1,11,11,1,0],[0,8,14,2,0],[0,4,16,4,0],[0,2,14,8,0],[0,1,11,11,1]]
 | 5=>[[1,26,66,26,1,0],[0,16,66,36,2,0],[0,8,60,48,4,0],[0,4,48,60,8,0],[0,2,36,66,16,0],[0,1,26,66,26,1]]
 | 6=>[[1,57,302,302,57,1,0],[0,32,262,342,82,2,0],[0,16,212,372,116,4,0],[0,8,160,384,160,8,0],[0,4,116,372,212,16,0],[0,2,82,342,262,32,0],[0,1,57,302,302,57,1]]
 | 7=>[[1,120,1191,2416,1191,120,1,0],[0,64,946,2416,1436,176,2,0],[0,32,716,2336,1696,256,4,0],[0,16,520,2176,1952,368,8,0],[0,8,368,1952,2176,520,16,0],[0,4,256,1696,2336,716,32,0],[0,2,176,1436,2416,946,64,0],[0,1,120,1191,2416,1191,120,1]]
 | _=>[]
noncomputable def EH (T:List (List Int)) (r:Nat) (f:Int):Int:=if 0<=f then gI (T.getD r []) f.toNat else 0
theorem Cs {m r:Nat}{f:Int} (hr:r<=m):Rn m r f=EH (c5 m) r f:=by
 have e:(c5 m).getD r []=cS m r:=by
  unfold c5
  rw[OE,NU,Pj (by lia)];rfl
 unfold EH
 rw[e]
 by_cases c:0<=f
 ·rw[if_pos c]
  by_cases d:f.toNat<=m
  ·rw[kD d,Int.toNat_of_nonneg c]
  ·rw[pL _ _ _ (by lia)]
   show _=(cS m r).getD f.toNat 0
   rw[OE,Ot (by rw[fS];lia)];rfl
 ·rw[if_neg c,oF _ _ _ (by lia)]
noncomputable def stT (m:Nat) (T:List (List Int)):List (List Int):=(ND (m+2)).map fun(l:Nat)=>(ND (m+2)).map fun(f:Nat)=>sg (fun r=>EH T r ((f:Int) - lss r l)) (m+1)
theorem JQ (m:Nat):c5 (m+1)=stT m (c5 m):=by
 unfold stT
 show(ND (m+2)).map (fun(l:Nat)=>cS (m+1) l)=_
 refine Ow fun l _=>?_
 show(ND (m+2)).map (fun(f:Nat)=>Rn (m+1) l f)=_
 refine Ow fun f _=>?_
 show sg _ (m+1)=_
 exact fA fun r hr=>Cs (by lia)
theorem LZ:∀m,m<7->stT m (TB m)=TB (m+1):=by decide +kernel
theorem CG:∀m,m<8->c5 m=TB m
 | 0,_=>rfl
 | m+1,h=>by rw[JQ,CG m (by lia),LZ m (by lia)]
noncomputable def RnT (m:Nat) (l f:Int):Int:=EH (TB m) l.toNat f
theorem AO {m:Nat}{l f:Int} (h:m<8) (l0:0<=l) (l1:l<=m):Rn m l f=RnT m l f:=by
 have:=Cs (m:=m) (r:=l.toNat) (f:=f) (by lia)
 rw[Int.toNat_of_nonneg l0] at this
 rw[this,CG m h];rfl
noncomputable def EbT (n:Nat) (k a b:Int):Int:=if n=1 then (if k=0 then 1 else 0) else if a=b then 0 else RnT (n - 2) ((a - b - 1) % n) (k - (if b<a then 1 else 0))
theorem LC {n:Nat}{k a b:Int} (h1:1<=n) (hn:n<=8) (a0:0<=a) (a1:a<n) (b0:0<=b) (b1:b<n):Eb n k a b=EbT n k a b:=by
 unfold Eb EbT
 by_cases c1:n=1
 ·rw[if_pos c1,if_pos c1]
 ·rw[if_neg c1,if_neg c1]
  by_cases c2:a=b
  ·rw[if_pos c2,if_pos c2]
  ·rw[if_neg c2,if_neg c2]
   have e:=jJ (a:=a - b - 1) (n:=n) (by lia) (by lia)
   refine AO (by lia) (RH _ (by lia)) ?_
   rw[e];split<;>lia
noncomputable def v8 (n k:Nat):Int:=(jO (pX (n - 1)) (some (k:Int)) (some ((k:Int)+1))).sum
noncomputable def chA (n k:Nat):Bool:=decide (sg (fun a=>RnT (n - 1) a k) n=v8 n k)&&decide (sg (fun a=>RnT (n - 1) a ((n:Int) - 1 - k)) n=v8 n k)
noncomputable def chB (n k a:Nat):Bool:=decide (sg (fun b=>EbT n k a b) n=RnT (n - 1) a k)&&(n == 1 || decide (EbT n k a a=0))&&(ND n).all (fun b=>decide (EbT n ((n:Int) - 1 - k) b a=EbT n k a b))&&decide (RnT (n - 1) ((n:Int) - 1 - a) ((n:Int) - 1 - k)=RnT (n - 1) a k)
theorem Iw:∀n,n<9->1<=n->∀k,k<n->chA n k=true:=by decide +kernel
theorem Gf:∀n,n<9->1<=n->∀k,k<n->∀a,a<n->chB n k a=true:=by decide +kernel
theorem cA {n k:Nat} (h1:1<=n) (hn:n<=8) (hk:k<n):sg (fun a=>Rn (n - 1) a k) n=v8 n k/\sg (fun a=>Rn (n - 1) a ((n:Int) - 1 - k)) n=v8 n k:=by
 have c:=Iw n (by lia) h1 k hk
 unfold chA at c
 simp only[N_,decide_eq_true_eq] at c
 rw[<- c.1]
 refine⟨fA fun i hi=>AO (by lia) (by lia) (by lia),?_⟩
 rw[c.1,<- c.2]
 exact fA fun i hi=>AO (by lia) (by lia) (by lia)
theorem cB {n k a:Nat} (h1:1<=n) (hn:n<=8) (hk:k<n) (ha:a<n):sg (fun b=>Eb n k a b) n=Rn (n - 1) a k/\(1<n->Eb n k a a=0)/\(∀b:Nat,b<n->Eb n ((n:Int) - 1 - k) b a=Eb n k a b)/\Rn (n - 1) ((n:Int) - 1 - a) ((n:Int) - 1 - k)=Rn (n - 1) a k:=by
 have c:=Gf n (by lia) h1 k hk a ha
 unfold chB at c
 simp only[N_,Bool.or_eq_true,beq_iff_eq,decide_eq_true_eq,NZ] at c
 obtain⟨⟨⟨c1,c2⟩,c3⟩,c4⟩:=c
 have e:Rn (n - 1) a k=RnT (n - 1) a k:=AO (by lia) (by lia) (by lia)
 have g:∀{x:Int} {i j:Nat},i<n->j<n->Eb n x i j=EbT n x i j:=fun hi hj=>LC h1 hn (by lia) (by lia) (by lia) (by lia)
 refine⟨?_,fun h=>?_,fun b hb=>?_,?_⟩
 ·rw[e,<- c1];exact fA fun b hb=>g ha hb
 ·rw[g ha ha];rcases c2 with z | z
  ·lia
  ·exact z
 ·rw[g hb ha,g ha hb];exact c3 b (N3.mpr hb)
 ·rw[e,<- c4];exact AO (by lia) (by lia) (by lia)
end FC
namespace FC
open PySem L2 L2.FE L2.Srt
theorem wI {n:Nat}{k a b:Int}{h:Hh} (h1:1<=n) (hn:n<=12) (k0:0<=k) (k1:k<=12) (a0:0<=a) (a1:a<n) (b0:0<=b) (b1:b<n) (w:Wf h):a_ [.int n,.int k,.int a,.int b] h=.ok (.int (Eb n k a b)) h:=by
 have en:=xM (h:=h) h1 hn k0 k1 a0 a1
 have z2:0<=b/\b<=(n:Int) - 1:=by lia
 have nn:=kF (h:=h) z2
 have rs:=k7 (h:=h) hn w
 have ec:=zD (N:=n) (s:=n) (k:=k) (a:=a) (b:=b) (h:=h) h1 (by lia) hn a0 a1 b0 b1
 generalize rsD n=RS at *
 simp[a_,aV,en,nn,rs,ec]
theorem Ik {n:Nat}{k a b:Int} (hn:n<=12) (a0:0<=a) (a1:a<n) (b0:0<=b) (b1:b<n):i3 n (ebV n k a b) (.clo "ends_begun" [.frl (rsD n),.int k,.int a,.int b]):=⟨_,_,5,bG,rfl,ni,rfl,fun xs h c b=>Mw hn a0 a1 b0 b1 c b⟩
theorem GF {n:Nat}{k a b:Int}{h:Hh} (w:Wf h) (h1:1<=n) (hn:n<=12) (k0:0<=k) (k1:k<=12) (a0:0<=a) (a1:a<n) (b0:0<=b) (b1:b<n) (c:Eb n k a b<=300):d8 [.int n,.int k,.int a,.int b] h=.ok (.frl ((fll n (ebV n k a b) n).map tpI)) h:=by
 have ct:=wI h1 hn k0 k1 a0 a1 b0 b1 w
 have rs:=k7 (h:=h) hn w
 have C:=Dc (n:=n) (k:=k) a0 a1 b0 b1
 have ol:=Cn (h:=h) (Ik (k:=k) hn a0 a1 b0 b1) h1 hn (fun m hm=>by have:=C1 C (show ebV n k a b []<=300 from c) m hm;lia) w
 have c':¬ 300<Eb n k a b:=by lia
 have tn:eQ [.int (Eb n k a b)] h=.ok .non h:=by
  simp[eQ,aV,c']
 generalize Eb n k a b=V at *
 generalize (fll n (ebV n k a b) n).map tpI=W at *
 generalize rsD n=RS at *
 delta d8 GX
 simp[ct,tn,rs,nM,ol]
theorem CU {n:Nat}{k a b:Int} (h1:1<=n) (a0:0<=a) (a1:a<n) (b0:0<=b) (b1:b<n):((fll n (ebV n k a b) n).length:Int)=Eb n k a b/\∀xs∈fll n (ebV n k a b) n,Ord n xs/\gI xs 0=a/\aR xs=b/\((aY xs).length:Int)=k:=by
 have F:∀xs,Beg n xs->xs.length=n->ebV n k a b xs=0\/ebV n k a b xs=1:=fun xs bg l=>by rw[x8 bg l b0 b1];split<;>simp
 have C:=Dc (n:=n) (k:=k) a0 a1 b0 b1
 have e0:ebV n k a b []=Eb n k a b:=rfl
 by_cases h0:0<ebV n k a b []
 ·refine⟨Dj C F h0,fun xs hx=>?_⟩
  obtain⟨l,bg⟩:=eB n xs hx
  have p:=sJ h0 n xs hx
  rw[x8 bg l b0 b1] at p
  split at p
  ·rename_i e;exact⟨⟨l,bg.nd,bg.lo,bg.hi⟩,e⟩
  ·lia
 ·have z:Eb n k a b=0:=by have:=Bl (n:=n) (k:=k) (a:=a) (b:=b);lia
  obtain⟨m,rfl⟩:∃m,n=m+1:=⟨n - 1,by lia⟩
  have e:=wN C h0 m (by lia)
  rw[e,z]
  exact⟨rfl,fun xs hx=>by cases hx⟩
theorem yE {n k:Nat}{h:Hh} (h1:1<=n) (h2:n<=12) (hk:k<=12):cU [.int n,.int k] h=.ok (.int (v8 n k)) h:=by
 have r:=Jt (n:=n - 1) (h:=h) (by lia)
 have e:((n - 1:Nat):Int)+1=(n:Int):=by lia
 rw[e] at r
 have z1:1<=(n:Int)/\(n:Int)<=30:=by lia
 have z2:0<=(k:Int)/\(k:Int)<=30:=by lia
 simp[cU,bS,aV,kF z1,kF z2,r,rK,v8]
theorem xD (r):kT r []=0:=by cases r<;>rfl
theorem kz (x:Int) (r:Nat):∀xs:List Int,kT (xs.length+1+r) (xs++[x])=kT (xs.length+1+r) xs+(x+1)*100 ^ r
 | []=>by
  rw[show([]:List Int).length+1+r=r+1 by grind,xD]
  show(x+1)*100 ^ r+kT r []=_
  rw[xD,Int.add_zero,Sz]
 | y::ys=>by
  have e:=kz x r ys
  rw[show(y::ys).length+1+r=(ys.length+1+r)+1 by grind]
  show(y+1)*100 ^ (ys.length+1+r)+kT (ys.length+1+r) (ys++[x])=(y+1)*100 ^ (ys.length+1+r)+kT (ys.length+1+r) ys+_
  lia
theorem xW (r):∀xs:List Int,∃q,kT (xs.length+r) xs=100 ^ r*q
 | []=>⟨0,by rw[xD,Int.mul_zero]⟩
 | y::ys=>by
  obtain⟨q,e⟩:=xW r ys
  rw[show(y::ys).length+r=(ys.length+r)+1 by grind]
  refine⟨(y+1)*100 ^ ys.length+q,?_⟩
  show(y+1)*100 ^ (ys.length+r)+kT (ys.length+r) ys=_
  grind
theorem GH (hx:xs.length=m) (hy:ys.length=m) (lt:kT (m+r) xs<kT (m+r) ys):kT (m+r) xs+100 ^ r<=kT (m+r) ys:=by
 obtain⟨a,ea⟩:=xW r xs
 obtain⟨b,eb⟩:=xW r ys
 rw[hx] at ea
 rw[hy] at eb
 have P:(0:Int)<100 ^ r:=Sb (by decide)
 rw[ea,eb] at lt ⊢
 have ab:a<b:=Int.lt_of_mul_lt_mul_left lt (by lia)
 have:=Int.mul_le_mul_of_nonneg_left (show a+1<=b by lia) (To P)
 grind
theorem uf (hn:n<=20):∀m,m<=n->(fll n B m).Pairwise (fun a b=>kT 20 a<kT 20 b)
 | 0,_=>OS _ _
 | m+1,hm=>by
  show((fll n B m).flatMap fun xs=>(nxB n B xs).map fun x=>xs++[x]).Pairwise _
  obtain⟨r,er⟩:∃r,20=m+1+r:=⟨19 - m,by lia⟩
  have P:(0:Int)<100 ^ r:=Sb (by decide)
  rw[List.pairwise_flatMap]
  constructor
  ·intro xs hx
   have lx:=(eB m xs hx).1
   rw[OT]
   refine(FK (n:=n) (B:=B) (xs:=xs)).imp fun{x y} lt=>?_
   have a:=kz x r xs
   have b:=kz y r xs
   simp_all
  ·refine(uf hn m (by lia)).imp_of_mem fun{xs ys} hx hy lt u hu v hv=>?_
   obtain⟨x,hx2,rfl⟩:=Oi.mp hu
   obtain⟨y,hy2,rfl⟩:=Oi.mp hv
   have lx:=(eB m xs hx).1
   have ly:=(eB m ys hy).1
   have bx:=(eB m xs hx).2.snoc (gJ hx2)
   have by':=(eB m ys hy).2.snoc (gJ hy2)
   have x1:x<n:=bx.hi x (by simp)
   have y0:0<=y:=by'.lo y (by simp)
   have a:=kz x r xs
   have b:=kz y r ys
   rw[lx,<- er] at a
   rw[ly,<- er] at b
   have f:=GH (r:=r+1) lx ly (by grind)
   rw[show m+(r+1)=20 by lia,Int.pow_succ] at f
   rw[a,b]
   have u1:=OV (show x+1<=99 by lia) (To P)
   have u2:=Int.mul_nonneg (show 0<=y+1 by lia) (To P)
   lia
theorem DO (h1:1<=n) (hn:n<=12) (hl:(fll n B n).length<=306):okV (fll n B n)=true:=by
 unfold okV
 simp only[N_,decide_eq_true_eq,NZ]
 refine⟨⟨hl,fun xs hx=>?_⟩,OT.mpr ((uf (by lia) n (NC _)).imp fun lt e=>by lia)⟩
 obtain⟨l,b⟩:=eB n xs hx
 refine⟨⟨?_,by lia⟩,fun x hx=>⟨b.lo x hx,by have:=b.hi x hx;lia⟩⟩
 grind
theorem Aq (hn:n<=12):oP (fll n B n)=fll n B n:=(j9 (kc _).symm (uf (by lia) n (NC _)) (iF _)).symm
structure Sub (m:Nat) (S:List Int):Prop where
 up:S.Pairwise (· < ·)
 inn:∀x∈S,0<=x/\x<(m:Int)
theorem DJ {n:Nat}{fl:Nat->Bool}:(aP n fl).Pairwise (· < ·):=by
 unfold aP
 rw[OT]
 exact(Q_.filter _).imp fun h=>by lia
theorem EU {n:Nat}{fl:Nat->Bool}{x:Int}:x∈aP n fl↔∃i:Nat,i<n - 1/\fl i=true/\x=i:=by
 unfold aP
 constructor
 ·intro h
  obtain⟨i,hi,rfl⟩:=Oi.mp h
  obtain⟨a,b⟩:=OA.mp hi
  exact⟨i,N3.mp a,b,rfl⟩
 ·rintro⟨i,a,b,rfl⟩
  exact Oi.mpr ⟨i,OA.mpr ⟨N3.mpr a,b⟩,rfl⟩
theorem Cg (n:Nat) (fl:Nat->Bool):Sub (n - 1) (aP n fl):=⟨DJ,fun x hx=>by
 obtain⟨i,a,_,rfl⟩:=EU.mp hx;lia⟩
theorem yn {n:Nat}{S:List Int}{h:Hh}{d1:Option D}:∀(S:List Int) (l:Int) (y:Option D),0<=l->S.Pairwise (· < ·)->(∀x∈S,l<=x/\x<((n - 1:Nat):Int))->∃l' z,eM (gN 3) (ay (bP (fR (av gS (ah bQ (aa (af 3) (aa (af 2) (aa (ao a9 (af 0) (cC (.int 2))) ak)))))) (aM (cC (.bl false))) aQ) (aX 2 (ao (cH aF) (af 3) (cC (.int 1))))) (S.map D.int) [some (.int n),d1,some (.int l),y] h=.ok (.nx [some (.int n),d1,some (.int l'),z]) h
 | [],l,y,_,_,_=>⟨l,y,rfl⟩
 | x::S,l,y,l0,so,hs=>by
  obtain⟨s1,s2⟩:=Ou.mp so
  have hx:=hs x NG
  obtain⟨l',z,q⟩:=yn (n:=n) (S:=S) (h:=h) (d1:=d1) S (x+1) (some (.int x)) (by lia) s2 (fun y hy=>by
   have:=s1 y hy;have:=hs y (ox _ hy);lia)
  refine⟨l',z,?_⟩
  rw[NV,jB]
  have c:l<=x/\x<=(n:Int) - 2:=by lia
  have st:(ay (bP (fR (av gS (ah bQ (aa (af 3) (aa (af 2) (aa (ao a9 (af 0) (cC (.int 2))) ak)))))) (aM (cC (.bl false))) aQ) (aX 2 (ao (cH aF) (af 3) (cC (.int 1))))) [some (.int n),d1,some (.int l),some (.int x)] h=.ok (.nx [some (.int n),d1,some (.int (x+1)),some (.int x)]) h:=by simp[c]
  simp[c,q]
theorem Az {n:Nat}{S:List Int}{h:Hh} (h1:1<=n) (hn:n<=12) (s:Sub (n - 1) S):fc [.int n,.tup (S.map D.int)] h=.ok .non h:=by
 have z0:(1:Int)<=n/\(n:Int)<=12:=by lia
 obtain⟨l',z,q⟩:=yn (n:=n) (S:=S) (h:=h) (d1:=some (.tup (S.map D.int))) S 0 none (by lia) s.up s.inn
 simp[fc,ic,aV,z0,q]
theorem xX {f:Nat->Int}:∀{n r:Nat},(∀i,i<n->0<=f i)->r<n->f r<=sg f n
 | 0,r,_,h=>by lia
 | n+1,r,p,h=>by
  rw[nc]
  have nn:∀k,k<=n->0<=sg f k:=fun k hk=>by
   induction k with
   | zero=>exact P2 _
   | succ k ih=>rw[nc];have:=ih (by lia);have:=p k (by lia);lia
  by_cases c:r=n
  ·subst c;have:=nn r (NC _);lia
  ·have:=xX (f:=f) (n:=n) (r:=r) (fun i hi=>p i (by lia)) (by lia)
   have:=p n (by lia);lia
theorem Dd {n:Nat}{fl:Nat->Bool}:∀m,∃r:Nat,r<=m/\0<Jr n fl m r
 | 0=>⟨0,NC _,by show(0:Int)<1;lia⟩
 | m+1=>by
  obtain⟨r,hr,hp⟩:=Dd (n:=n) (fl:=fl) m
  cases hf:fl (n - 2 - m) with
  | true=>
   refine⟨m+1,NC _,?_⟩
   have g:=xX (f:=fun r=>if decide ((r:Int)<((m+1:Nat):Int))=fl (n - 2 - m) then Jr n fl m r else 0) (n:=m+1) (r:=r) (fun i _=>by have:=(mJ n fl m i).1;split<;>lia) (by lia)
   rw[if_pos (by rw[hf,decide_eq_true (by lia)])] at g
   exact RP hp g
  | false=>
   refine⟨0,OU _,?_⟩
   have g:=xX (f:=fun r=>if decide ((r:Int)<((0:Nat):Int))=fl (n - 2 - m) then Jr n fl m r else 0) (n:=m+1) (r:=r) (fun i _=>by have:=(mJ n fl m i).1;split<;>lia) (by lia)
   rw[if_pos (by rw[hf,decide_eq_false (by lia)])] at g
   exact RP hp g
theorem GV {n:Nat}{fl:Nat->Bool} (h1:1<=n):0<jcV n fl []:=by
 obtain⟨r,hr,hp⟩:=Dd (n:=n) (fl:=fl) (n - 1)
 have g:=xX (f:=fun r=>Jr n fl (n - 1) r) (n:=n) (r:=r) (fun i _=>(mJ n fl _ _).1) (by lia)
 exact RP hp g
theorem Jo {n:Nat}{fl:Nat->Bool} (h1:1<=n):∀xs,Beg n xs->xs.length=n->jcV n fl xs=0\/jcV n fl xs=1:=fun xs _ l=>by
 rw[yT h1 l];split
 ·exact .inr rfl
 ·exact .inl rfl
theorem Fg {n:Nat}{fl:Nat->Bool}{h:Hh} (h1:1<=n) (hn:n<=12):eY [.int n,.tup ((aP n fl).map D.int)] h=.ok (.int (jcV n fl [])) h:=by
 have a:=Az (h:=h) h1 hn (Cg n fl)
 have r:=vi (n:=n) (fl:=fl) (h:=h) h1 (by lia)
 have c:=JU (n:=n) (fl:=fl) (xs:=[]) (h:=h) (Beg.nil n) h1 (by lia)
 have c:ba [.frl (jrD n fl n),.tup ((aP n fl).map D.int),.tup []] h=.ok (.int (jcV n fl [])) h:=c
 generalize jrD n fl n=J at *
 generalize (aP n fl).map D.int=T at *
 simp[eY,aV,a,r,c]
theorem Ia {n:Nat}{fl:Nat->Bool}{t u:Int} (h1:1<=n) (hn:n<=20) (h0:0<=t) (le:t<=u) (hu:u<jcV n fl []):L2.Srt.kT 20 (grd n (jcV n fl) n [] t).1<=L2.Srt.kT 20 (grd n (jcV n fl) n [] u).1:=by
 rcases Int.lt_or_eq_of_le le with lt | rfl
 ·have F:=Jo (n:=n) (fl:=fl) h1
  have a:=A7 (oE fl h1) F (t:=t.toNat) (by lia)
  have b:=A7 (oE fl h1) F (t:=u.toNat) (by lia)
  rw[show((t.toNat:Nat):Int)=t by lia] at a
  rw[show((u.toNat:Nat):Int)=u by lia] at b
  obtain⟨la,ea⟩:=Og.mp a
  obtain⟨lb,eb⟩:=Og.mp b
  have:=NX.mp (uf (n:=n) (B:=jcV n fl) hn n (NC _)) t.toNat u.toNat la lb (by lia)
  rw[ea,eb] at this
  lia
 ·exact P2 _
theorem zB (k:Nat) (h:Hh):∀L:List (List Int),eqL (eqD (k+2) h) (L.map tpI) (L.map tpI)=some true
 | []=>rfl
 | x::L=>by
  have e1:eqD (k+2) h (tpI x) (tpI x)=some true:=by
   show eqL (eqD (k+1) h) (x.map D.int) (x.map D.int)=some true
   rw[gf];simp
  simp only[NV,eqL,e1,zB k h L];rfl
theorem IK {L:List (List Int)}{h:Hh}:dNe (.frl (L.map tpI)) (.frl (L.map tpI)) h=.ok (.bl false) h:=by
 have:eqD eqN h (.frl (L.map tpI)) (.frl (L.map tpI))=some true:=by
  show(if (L.map tpI).length=(L.map tpI).length then eqL (eqD 11 h) (L.map tpI) (L.map tpI) else some false)=_
  rw[if_pos rfl,zB]
 simp only[dNe,this];rfl
theorem JF {S:List Int}{h:Hh}:dNe (.tup (S.map D.int)) (.tup (S.map D.int)) h=.ok (.bl false) h:=by
 have:eqD eqN h (.tup (S.map D.int)) (.tup (S.map D.int))=some true:=by
  show eqL (eqD 11 h) (S.map D.int) (S.map D.int)=_
  rw[gf];simp
 simp only[dNe,this];rfl
noncomputable def BZL:MS:=(ay (bP (lC (av asB (ao (C2 true) (ah di (aa (af 5) ak)) (cC (.bl true)))) (av asB (ao dNe (ah b9 (aa (af 5) ak)) (ah iB (aa (cC (.int 1)) (aa (ao a9 (af 1) (cC (.int 1))) (aa (cC (.int 2)) ak))))))) (aM (cC (.bl false))) aQ) (bP (av asB (ao dNe (ah b7 (aa (af 5) ak)) (ao a9 (ao Ao (af 1) (cC (.int 2))) (ah A0 (aa (ao dEq (ao qh (af 1) (cC (.int 2))) (cC (.int 0))) ak))))) (aM (cC (.bl false))) aQ))
noncomputable def Z1:MS:=(aX 1 (ao (cH aF) (cC (.int 1)) (ah aL (aa (af 0) (aa (cC (.int 20)) ak)))))
noncomputable def Z2:MS:=(aX 2 (ah cq (aa (af 1) ak)))
noncomputable def Z3:MS:=(bP (av asB (ao dNe (ah fI (aa (ah aC (aa (af 1) ak)) ak)) (af 2))) (aM (cC (.bl false))) aQ)
noncomputable def Z4:MS:=(bP (mH (av asB (ao dLt (af 1) (cC (.int 13)))) (av asB (ao dNe (ah eY (aa (af 1) (aa (ah iB (aa (cC (.int 1)) (aa (ao a9 (af 1) (cC (.int 1))) (aa (cC (.int 2)) ak)))) ak))) (af 2)))) (aM (cC (.bl false))) aQ)
noncomputable def Z5:MS:=(aX 3 (ah aL (aa (af 0) (aa (af 2) ak))))
noncomputable def Z6:MS:=(aX 4 (bT aF (cw (ah gG (aa (cC (.int 0)) (aa (af 3) (aa (ah yq (aa (ao (cH aF) (af 3) (cC (.int 1))) (aa (ao a9 (af 2) (cC (.int 1))) ak))) (aa (ao a9 (af 2) (cC (.int 1))) ak)))))) [1] tt1 (ah dN (aa (af 1) (aa (af 0) ak)))))
noncomputable def Z7:MS:=(bP (lC (av asB (ao dNe (af 4) (ah (lL aF) (aa (af 4) ak)))) (av asB (ao dNe (ah cM (aa (ao dIx (af 4) (cC (.int 1))) ak)) (af 3)))) (aM (cC (.bl false))) aQ)
noncomputable def Z8:MS:=(eN (cw (af 4)) (gN 5) BZL)
noncomputable def Z9:MS:=(aM (cC (.bl true)))
theorem IG:bo=bR 6 (ay Z1 (ay Z2 (ay Z3 (ay Z4 (ay Z5 (ay Z6 (ay Z7 (ay Z8 (Z9))))))))):=rfl
theorem Lw (n:Nat) (hn:n<20) (h:Hh):iB [.int 1,.int ((n:Int)+1 - 1),.int 2] h=.ok (.tup ((aP (n+1) odd).map D.int)) h:=by
 match n,hn with
 | 0,_=>kernel_rfl
 | 1,_=>kernel_rfl
 | 2,_=>kernel_rfl
 | 3,_=>kernel_rfl
 | 4,_=>kernel_rfl
 | 5,_=>kernel_rfl
 | 6,_=>kernel_rfl
 | 7,_=>kernel_rfl
 | 8,_=>kernel_rfl
 | 9,_=>kernel_rfl
 | 10,_=>kernel_rfl
 | 11,_=>kernel_rfl
 | 12,_=>kernel_rfl
 | 13,_=>kernel_rfl
 | 14,_=>kernel_rfl
 | 15,_=>kernel_rfl
 | 16,_=>kernel_rfl
 | 17,_=>kernel_rfl
 | 18,_=>kernel_rfl
 | 19,_=>kernel_rfl
 | n+20,hn=>exact absurd hn (by lia)
theorem Be {n:Nat} (h1:1<=n) (hn:n<=20) (h:Hh):iB [.int 1,.int ((n:Int) - 1),.int 2] h=.ok (.tup ((aP n odd).map D.int)) h:=by
 obtain⟨k,rfl⟩:∃k,n=k+1:=⟨n - 1,by lia⟩
 exact Lw k (by lia) h
noncomputable def X4 (n:Nat) (t:Int):List Int:=(grd n (jcV n odd) n [] t).1
noncomputable abbrev FL (n:Nat) (t:Int):List (List Int):=[X4 n 0,X4 n t,X4 n (min (t+1) (jcV n odd [] - 1)),X4 n (jcV n odd [] - 1)]
noncomputable abbrev FO (n:Nat) (t:Int):D:=.frl ((FL n t).map tpI)
theorem jS {n:Nat}{t:Int} (h1:1<=n) (h0:0<=t) (ht:t<jcV n odd []):Ord n (X4 n t)/\aY (X4 n t)=aP n odd/\rkL n (jcV n odd) [] (X4 n t)=t:=by
 obtain⟨ys,e1,o,f,rk⟩:=DS (fl:=odd) h1 h0 ht
 have:ys=X4 n t:=e1.symm
 subst this
 exact⟨o,f,rk⟩
theorem JA {n:Nat}{t:Int} (h1:1<=n) (hn:n<=20) (h0:0<=t) (ht:t<jcV n odd []):okR (FL n t)=true:=by
 have m0:0<=min (t+1) (jcV n odd [] - 1):=by lia
 have m1:min (t+1) (jcV n odd [] - 1)<jcV n odd []:=by lia
 have m2:t<=min (t+1) (jcV n odd [] - 1):=by lia
 have m3:min (t+1) (jcV n odd [] - 1)<=jcV n odd [] - 1:=by lia
 have U:∀{u v:Int},0<=u->u<=v->v<jcV n odd []->kT 20 (X4 n u)<=kT 20 (X4 n v):=fun a b c=>Ia h1 hn a b c
 have O:∀{u:Int},0<=u->u<jcV n odd []->(!(X4 n u).isEmpty&&decide ((X4 n u).length<=20)&&(X4 n u).all fun x=>decide (0<=x/\x<=98))=true:=fun{u} a b=>by
  have o:=(jS h1 a b).1
  have l:=o.len
  simp only[N_,decide_eq_true_eq,NZ]
  refine⟨⟨?_,by lia⟩,fun x hx=>by have:=o.lo x hx;have:=o.hi x hx;lia⟩
  cases hX:X4 n u with
  | nil=>rw[hX] at l;simp at l;lia
  | cons _ _=>rfl
 unfold okR
 simp only[N_,decide_eq_true_eq]
 refine⟨⟨by simp,?_⟩,?_⟩
 ·simp only[Qh,Ti,O (P2 0) (by lia),O h0 ht,O m0 m1,O (show 0<=jcV n odd [] - 1 by lia) (by lia)];rfl
 ·simp only[NV,PZ,Ou,NQ,PX,or_false,forall_eq_or_imp,forall_eq]
  exact⟨⟨U (P2 0) h0 ht,U (P2 0) m0 m1,U (P2 0) (by lia) (by lia)⟩,⟨U h0 m2 m1,U h0 (by lia) (by lia)⟩,U m0 m3 (by lia),by simp⟩
theorem Ec:∀n,n<21->1<=n->((aP n odd).length:Int)=(n:Int) / 2 - (if (n:Int) % 2=0 then 1 else 0):=by decide +kernel
section
variable {y1 y2 y3 y4 y5:Option D}{h:Hh}{p:Pen}{n:Nat}{t:Int}
theorem Jd:∃(n:Nat) (p':Pen),(1<=n/\n<=20)/\Z1 [some (.ref h.length),y1,y2,y3,y4,y5] (h++[.lst (bF p)])=.ok (.nx [some (.ref h.length),some (.int n),y2,y3,y4,y5]) (h++[.lst (bF p')]):=by
 obtain⟨n,e,a,b⟩:=rH p (m:=20) (by decide)
 have e:1+fZ p 20=n:=e
 have d:=k9 (p:=p) (h:=h) (t:=[]) (m:=20) (by decide)
 exact⟨n,iW p 20,⟨a,b⟩,by simp[Z1,d,e]⟩
theorem Jy (h1:1<=n) (hn:n<=20):Z2 [some (.ref h.length),some (.int n),y2,y3,y4,y5] (h++[.lst (bF p)])=.ok (.nx [some (.ref h.length),some (.int n),some (.int (jcV n odd [])),y3,y4,y5]) (h++[.lst (bF p)]):=by
 have a:=yN h1 hn (h++[.lst (bF p)])
 simp[Z2,a]
theorem JW (h1:1<=n) (hn:n<=20):Z3 [some (.ref h.length),some (.int n),some (.int (jcV n odd [])),y3,y4,y5] (h++[.lst (bF p)])=.ok (.nx [some (.ref h.length),some (.int n),some (.int (jcV n odd [])),y3,y4,y5]) (h++[.lst (bF p)]):=by
 have a:=B3 (n - 1) (by lia) (h++[.lst (bF p)])
 have s:=BH (n:=n - 1) (by lia)
 rw[show((n - 1:Nat):Int)+1=(n:Int) by lia] at a
 rw[show n - 1+1=n by lia] at s
 have sm:fI [.frl ((zrL (n - 1)).map D.int)] (h++[.lst (bF p)])=.ok (.int (jcV n odd [])) (h++[.lst (bF p)]):=by rw[sZ,s]
 generalize (zrL (n - 1)).map D.int=R at *
 simp[Z3,a,sm]
theorem IQ (h1:1<=n) (hn:n<=20):Z4 [some (.ref h.length),some (.int n),some (.int (jcV n odd [])),y3,y4,y5] (h++[.lst (bF p)])=.ok (.nx [some (.ref h.length),some (.int n),some (.int (jcV n odd [])),y3,y4,y5]) (h++[.lst (bF p)]):=by
 by_cases c:(n:Int)<13
 ·have a:=Be h1 hn (h++[.lst (bF p)])
  have b:=Fg (fl:=odd) (h:=(h++[.lst (bF p)])) h1 (by lia)
  generalize (aP n odd).map D.int=R at *
  simp[Z4,c,a,b]
 ·simp[Z4,c]
theorem KU (h1:1<=n) (hn:n<=20):∃(t:Nat) (p':Pen),(t:Int)<jcV n odd []/\Z5 [some (.ref h.length),y1,some (.int (jcV n odd [])),y3,y4,y5] (h++[.lst (bF p)])=.ok (.nx [some (.ref h.length),y1,some (.int (jcV n odd [])),some (.int t),y4,y5]) (h++[.lst (bF p')]):=by
 have h0:=GV (fl:=odd) h1
 have jl:=JX (n:=n) (fl:=odd) (xs:=[]) h1 hn
 obtain⟨t,et,bt⟩:=JK p (jcV n odd []) h0
 have d:=k9 (p:=p) (h:=h) (t:=[]) (m:=jcV n odd []) ⟨h0,jl⟩
 rw[et] at d
 refine⟨t,iW p (jcV n odd []),bt,?_⟩
 generalize jcV n odd []=V at *
 simp[Z5,d]
theorem KC (h1:1<=n) (hn:n<=20) (h0:0<=t) (ht:t<jcV n odd []):Z6 [some (.ref h.length),some (.int n),some (.int (jcV n odd [])),some (.int t),y4,y5] (h++[.lst (bF p)])=.ok (.nx [some (.ref h.length),some (.int n),some (.int (jcV n odd [])),some (.int t),some (FO n t),y5]) (h++[.lst (bF p)]):=by
 have q:cx tt1 (ah dN (aa (af 1) (aa (af 0) ak))) (fun d=>[some d,some (.int n)]) ([0,t,min (t+1) (jcV n odd [] - 1),jcV n odd [] - 1].map D.int) (h++[.lst (bF p)])=.ok ([0,t,min (t+1) (jcV n odd [] - 1),jcV n odd [] - 1].map fun u=>tpI (X4 n u)) (h++[.lst (bF p)]):=vt D.int (fun u=>tpI (X4 n u)) _ (fun u hu=>by
  have hu:0<=u/\u<jcV n odd []:=by
   simp only[NQ,PX,or_false] at hu
   lia
  have e:=KS (h:=(h++[.lst (bF p)])) h1 hn hu.1 hu.2
  unfold X4 tpI
  generalize (grd n (jcV n odd) n [] u).1.map D.int=Y at *
  simp[e])
 simp only[NV,PZ] at q
 unfold FO FL
 simp only[NV,PZ]
 generalize X4 n=G at *
 generalize jcV n odd []=V at *
 simp[Z6,q]
theorem Kr (w:Wf h) (h1:1<=n) (hn:n<=20) (h0:0<=t) (ht:t<jcV n odd []):Z7 [some (.ref h.length),y1,y2,some (.int t),some (FO n t),y5] (h++[.lst (bF p)])=.ok (.nx [some (.ref h.length),y1,y2,some (.int t),some (FO n t),y5]) (h++[.lst (bF p)]):=by
 have so:lL aF [FO n t] (h++[.lst (bF p)])=.ok (FO n t) (h++[.lst (bF p)]):=by
  have l:iH (FO n t) (h++[.lst (bF p)])=some ((FL n t).map vn):=rfl
  delta lL;dsimp only
  rw[l]
  dsimp only
  rw[ke]
  dsimp only
  rw[if_pos (JA h1 hn h0 ht)];rfl
 have ne:=IK (L:=FL n t) (h:=(h++[.lst (bF p)]))
 have ne:dNe (FO n t) (FO n t) (h++[.lst (bF p)])=.ok (.bl false) (h++[.lst (bF p)]):=ne
 obtain⟨o,f,rk⟩:=jS h1 h0 ht
 have zn:=G3 (h:=(h++[.lst (bF p)])) h1 hn o f (uc w p)
 rw[rk] at zn
 have i1:dIx (FO n t) (.int 1) (h++[.lst (bF p)])=.ok (.tup ((X4 n t).map D.int)) (h++[.lst (bF p)]):=rfl
 generalize FO n t=Q at *
 generalize (X4 n t).map D.int=X at *
 simp[Z7,so,ne,i1,zn]
theorem J6 {xs:List Int} (w:Wf h) (h1:1<=n) (hn:n<=20) (o:Ord n xs) (f:aY xs=aP n odd):BZL [some (.ref h.length),some (.int n),y2,y3,y4,some (tpI xs)] (h++[.lst (bF p)])=.ok (.nx [some (.ref h.length),some (.int n),y2,y3,y4,some (tpI xs)]) (h++[.lst (bF p)]):=by
 have w:=uc w p
 have a:=lK o h1 hn w
 have fa:=jf (xs:=xs) (h:=(h++[.lst (bF p)])) (by rw[o.len];lia)
 have od:=w_ h1 hn (h++[.lst (bF p)])
 have t3:=Be h1 hn (h++[.lst (bF p)])
 have l:(((xs.map D.int).length:Nat):Int)=n:=by rw[NJ,o.len]
 have eq:=Bn (h:=(h++[.lst (bF p)])) (xs:=aY xs) (ys:=aP n odd)
 have ne:=JF (S:=aP n odd) (h:=(h++[.lst (bF p)]))
 have ol:=Ec n (by lia) h1
 have s2:sml 2=true:=by decide +kernel
 rw[f] at eq fa
 rw[decide_eq_true rfl] at eq
 have l2:(((aP n odd).map D.int).length:Int)=(n:Int) / 2 - (if (n:Int) % 2=0 then 1 else 0):=by rw[NJ];exact ol
 have it:∀H:Hh,C2 true (.bl true) (.bl true) H=.ok (.bl false) H:=fun _=>rfl
 have fo:b9 [.tup (xs.map D.int)] (h++[.lst (bF p)])=.ok (.tup ((aP n odd).map D.int)) (h++[.lst (bF p)]):=by
  generalize (aP n odd).map D.int=S at *
  generalize xs.map D.int=X at *
  simp[b9,aV,a,fa]
 unfold tpI
 generalize (aP n odd).map D.int=S at *
 generalize xs.map D.int=X at *
 simp[BZL,di,b7,aV,fo,od,l,eq,it,ne,t3,l2,s2]
theorem IC (w:Wf h) (h1:1<=n) (hn:n<=20) (h0:0<=t) (ht:t<jcV n odd []):∃z5,Z8 [some (.ref h.length),some (.int n),y2,y3,some (FO n t),y5] (h++[.lst (bF p)])=.ok (.nx [some (.ref h.length),some (.int n),y2,y3,some (FO n t),z5]) (h++[.lst (bF p)]):=by
 have P:∀xs∈FL n t,Ord n xs/\aY xs=aP n odd:=fun xs hx=>by
  simp only[FL,NQ,PX,or_false] at hx
  rcases hx with rfl | rfl | rfl | rfl
  ·exact⟨(jS h1 (P2 0) (by lia)).1,(jS h1 (P2 0) (by lia)).2.1⟩
  ·exact⟨(jS h1 h0 ht).1,(jS h1 h0 ht).2.1⟩
  ·exact⟨(jS h1 (by lia) (by lia)).1,(jS h1 (by lia) (by lia)).2.1⟩
  ·exact⟨(jS h1 (by lia) (by lia)).1,(jS h1 (by lia) (by lia)).2.1⟩
 obtain⟨q,_⟩:=oo (tg:=gN 5) (body:=BZL) (fun(s:Option D)=>[some (.ref h.length),some (.int n),y2,y3,some (FO n t),s]) (fun _=>(h++[.lst (bF p)])) tpI (fun _ xs=>some (tpI xs)) (fun r _=>∀xs∈r,Ord n xs/\aY xs=aP n odd) (fun s xs r hr=>⟨fun y hy=>hr y (ox _ hy),.inl (by
  simp only[Ig,eT,T8]
  have z:=hr xs NG
  exact J6 w h1 hn z.1 z.2)⟩) (FL n t) y5 P
 generalize (FL n t).foldl (fun(_:Option D) xs=>some (tpI xs)) y5=z5 at q
 refine⟨z5,?_⟩
 have l:((FL n t).map tpI).length<=1000000:=by simp
 unfold FO at q ⊢
 generalize (FL n t).map tpI=S at *
 simp[Z8,l,q]
end
theorem K5 {p:Pen}{h:Hh} (w:Wf h):∃p',bo [.ref h.length] (h++[.lst (bF p)])=.ok (.bl true) (h++[.lst (bF p')]):=by
 obtain⟨n,p1,⟨h1,hn⟩,e1⟩:=Jd (p:=p) (h:=h) (y1:=none) (y2:=none) (y3:=none) (y4:=none) (y5:=none)
 obtain⟨t,p2,ht,e5⟩:=KU (p:=p1) (h:=h) (y1:=some (.int n)) (y3:=none) (y4:=none) (y5:=none) h1 hn
 have h0:(0:Int)<=t:=by lia
 obtain⟨z5,e8⟩:=IC (p:=p2) (h:=h) (y2:=some (.int (jcV n odd []))) (y3:=some (.int t)) (y5:=none) w h1 hn h0 ht
 refine⟨p2,?_⟩
 rw[IG,aV]
 show(ay Z1 _ [some (.ref h.length),none,none,none,none,none] _).bind D4=_
 simp only[F3,eT,Jg,e1,Jy h1 hn,JW h1 hn,IQ h1 hn,e5,KC h1 hn h0 ht,Kr w h1 hn h0 ht,e8]
 simp[Z9]
end FC
namespace FC
open PySem L2 L2.FE
noncomputable def B0:MS:=(ay (aX 10 (ah d8 (aa (af 3) (aa (af 4) (aa (af 5) (aa (af 9) ak)))))) (ay (bP (lC (av asB (ao dNe (ah b_ (aa (af 10) ak)) (ao dIx (af 6) (af 9)))) (av asB (ao dNe (af 10) (ah (lW aF) (aa (af 10) ak))))) (aM (cC (.bl false))) aQ) (bP (av asB (ao dNe (bT aF (cw (af 10)) [5,9,4] (av asB (ao dNe (ah gG (aa (ao dIx (af 0) (cC (.int 0))) (aa (ao dIx (af 0) (cUn h8 (cC (.int 1)))) (aa (ah b7 (aa (af 0) ak)) ak)))) (ah gG (aa (af 1) (aa (af 2) (aa (af 3) ak)))))) (af 0)) (ah (eX aF) ak))) (aM (cC (.bl false))) aQ)))
noncomputable def B1:MS:=(ay (aX 2 (ah cV (aa (af 1) ak))) (ay (aX 3 (ao (cH aF) (cC (.int 1)) (ah aL (aa (af 2) (aa (cC (.int 8)) ak))))) (ay (BU 4 5 (ah gG (aa (ah aL (aa (af 2) (aa (af 3) ak))) (aa (ah aL (aa (af 2) (aa (af 3) ak))) ak)))) (ay (bP (av asB (ao dNe (ah fI (aa (bT aF (dn eD (aa (af 3) ak)) [3,4] tt1 (ah aK (aa (af 1) (aa (af 2) (aa (af 0) ak))))) ak)) (ah cU (aa (af 3) (aa (af 4) ak))))) (aM (cC (.bl false))) aQ) (ay (bP (av asB (ao dNe (ah fI (aa (bT aF (dn eD (aa (af 3) ak)) [3,4] tt1 (ah bJ (aa (af 1) (aa (af 2) (aa (af 0) ak))))) ak)) (ah cU (aa (af 3) (aa (af 4) ak))))) (aM (cC (.bl false))) aQ) (ay (aX 6 (bT aF (dn eD (aa (af 3) ak)) [3,4,5] tt1 (ah a_ (aa (af 1) (aa (af 2) (aa (af 3) (aa (af 0) ak))))))) (ay (bP (lC (av asB (ao dNe (ah fI (aa (af 6) ak)) (ah aK (aa (af 3) (aa (af 4) (aa (af 5) ak)))))) (mH (av asB (ao dGt (af 3) (cC (.int 1)))) (av asB (ao dNe (ao dIx (af 6) (af 5)) (cC (.int 0)))))) (aM (cC (.bl false))) aQ) (ay (bP (av asB (ao dNe (bT aF (dn eD (aa (af 3) ak)) [3,4,5] tt1 (ah a_ (aa (af 1) (aa (ao a9 (ao a9 (af 1) (cC (.int 1))) (af 2)) (aa (af 0) (aa (af 3) ak)))))) (af 6))) (aM (cC (.bl false))) aQ) (ay (aX 7 (ah aK (aa (af 3) (aa (af 4) (aa (af 5) ak))))) (ay (bP (av asB (ao dNe (ah (eX aF) (aa (ah aK (aa (af 3) (aa (ao a9 (ao a9 (af 3) (cC (.int 1))) (af 4)) (aa (ao a9 (ao a9 (af 3) (cC (.int 1))) (af 5)) ak)))) (aa (ah bJ (aa (af 3) (aa (ao a9 (ao a9 (af 3) (cC (.int 1))) (af 4)) (aa (af 5) ak)))) ak))) (ah (eX aF) (aa (af 7) (aa (af 7) ak))))) (aM (cC (.bl false))) aQ) (ay (aX 8 (bT aF (dn eD (aa (af 3) ak)) [6] (av asB (ao dLt (ao dIx (af 1) (af 0)) (cC (.int 301)))) (af 0))) (ay (eN (cw (cY aF (af 8) cR (dY (cC (.int 3))))) (gN 9) B0) (bP (fR (av gS (ah bo (aa (af 2) ak)))) (aM (cC (.bl false))) aQ)))))))))))))
theorem Bh:oM=fun ds h=>((bR 11 (ay (eN (cw (ao (cH aF) (ah (eX aF) (aa (ah cE (aa (af 0) (aa (cC (.int 0)) ak))) ak)) (cY aF (af 0) (dY (cC (.int 1))) (dY (cC (.int 2)))))) (gN 1) B1) (aM (cC (.bl true))))) ds h).bind (eC h):=rfl
noncomputable def BJ:Prop:=∀(ns:List Int) (c:Int) (y2 y3 y4 y5 y6 y7 y8 y9 y10:Option D) (h:Hh),Wf h->Ok (B1 [some (.scr (ns.map D.int)),some (.int c),y2,y3,y4,y5,y6,y7,y8,y9,y10] h) fun fl h2=>∃z2 z3 z4 z5 z6 z7 z8 z9 z10,fl=.nx [some (.scr (ns.map D.int)),some (.int c),z2,z3,z4,z5,z6,z7,z8,z9,z10]/\Wf h2
theorem HF (step:BJ) (ns:List Int) (hl:ns.length<=63):∃h,oM [.scr (ns.map D.int)] []=.ok (.bl true) h:=by
 have key:Ok (eM (gN 1) B1 (((ns.headD 0)::jO ns (some 1) (some 2)).map D.int) [some (.scr (ns.map D.int)),none,none,none,none,none,none,none,none,none,none] []) fun fl h2=>(∃e,fl=.nx e)/\Wf h2:=by
  refine sk D.int (fun e h=>(∃y1 y2 y3 y4 y5 y6 y7 y8 y9 y10,e=[some (.scr (ns.map D.int)),y1,y2,y3,y4,y5,y6,y7,y8,y9,y10])/\Wf h) _ _ _ ⟨⟨_,_,_,_,_,_,_,_,_,_,rfl⟩,Wf.nil⟩ (fun x e h _ ⟨⟨y1,y2,y3,y4,y5,y6,y7,y8,y9,y10,e1⟩,w⟩=>?_) (fun e h ⟨_,w⟩=>⟨⟨_,rfl⟩,w⟩)
  subst e1
  simp only[Ig,eT,T8]
  refine(step ns x y2 y3 y4 y5 y6 y7 y8 y9 y10 h w).mono fun fl h2 ⟨z2,z3,z4,z5,z6,z7,z8,z9,z10,e2,w2⟩=>?_
  subst e2
  exact⟨⟨_,_,_,_,_,_,_,_,_,_,rfl⟩,w2⟩
 obtain⟨fl,h2,e,⟨e',rfl⟩,w⟩:=key
 have cl:=DI ns (some 1) (some 2)
 have c1:1+(jO ns (some 1) (some 2)).length<=1000000:=by lia
 have ex:eC [] (.bl true) h2=.ok (.bl true) []:=by
  have:=pk (h:=[]) (t:=h2) (d:=.bl true) Wf.nil rfl
  simpa using this
 refine⟨[],?_⟩
 have e2:eM (gN 1) B1 (D.int (ns.headD 0)::(jO ns (some 1) (some 2)).map D.int) [some (.scr (ns.map D.int)),none,none,none,none,none,none,none,none,none,none] []=.ok (.nx e') h2:=e
 rw[Bh]
 simp[aV,rK,c1,e2,ex,-List.headD_eq_head?_getD]
noncomputable def S1:MS:=(aX 2 (ah cV (aa (af 1) ak)))
noncomputable def S2:MS:=(aX 3 (ao (cH aF) (cC (.int 1)) (ah aL (aa (af 2) (aa (cC (.int 8)) ak)))))
noncomputable def S3:MS:=(BU 4 5 (ah gG (aa (ah aL (aa (af 2) (aa (af 3) ak))) (aa (ah aL (aa (af 2) (aa (af 3) ak))) ak))))
noncomputable def S4:MS:=(bP (av asB (ao dNe (ah fI (aa (bT aF (dn eD (aa (af 3) ak)) [3,4] tt1 (ah aK (aa (af 1) (aa (af 2) (aa (af 0) ak))))) ak)) (ah cU (aa (af 3) (aa (af 4) ak))))) (aM (cC (.bl false))) aQ)
noncomputable def S5:MS:=(bP (av asB (ao dNe (ah fI (aa (bT aF (dn eD (aa (af 3) ak)) [3,4] tt1 (ah bJ (aa (af 1) (aa (af 2) (aa (af 0) ak))))) ak)) (ah cU (aa (af 3) (aa (af 4) ak))))) (aM (cC (.bl false))) aQ)
noncomputable def S6:MS:=(aX 6 (bT aF (dn eD (aa (af 3) ak)) [3,4,5] tt1 (ah a_ (aa (af 1) (aa (af 2) (aa (af 3) (aa (af 0) ak)))))))
noncomputable def S7:MS:=(bP (lC (av asB (ao dNe (ah fI (aa (af 6) ak)) (ah aK (aa (af 3) (aa (af 4) (aa (af 5) ak)))))) (mH (av asB (ao dGt (af 3) (cC (.int 1)))) (av asB (ao dNe (ao dIx (af 6) (af 5)) (cC (.int 0)))))) (aM (cC (.bl false))) aQ)
noncomputable def S8:MS:=(bP (av asB (ao dNe (bT aF (dn eD (aa (af 3) ak)) [3,4,5] tt1 (ah a_ (aa (af 1) (aa (ao a9 (ao a9 (af 1) (cC (.int 1))) (af 2)) (aa (af 0) (aa (af 3) ak)))))) (af 6))) (aM (cC (.bl false))) aQ)
noncomputable def S9:MS:=(aX 7 (ah aK (aa (af 3) (aa (af 4) (aa (af 5) ak)))))
noncomputable def S10:MS:=(bP (av asB (ao dNe (ah (eX aF) (aa (ah aK (aa (af 3) (aa (ao a9 (ao a9 (af 3) (cC (.int 1))) (af 4)) (aa (ao a9 (ao a9 (af 3) (cC (.int 1))) (af 5)) ak)))) (aa (ah bJ (aa (af 3) (aa (ao a9 (ao a9 (af 3) (cC (.int 1))) (af 4)) (aa (af 5) ak)))) ak))) (ah (eX aF) (aa (af 7) (aa (af 7) ak))))) (aM (cC (.bl false))) aQ)
noncomputable def S11:MS:=(aX 8 (bT aF (dn eD (aa (af 3) ak)) [6] (av asB (ao dLt (ao dIx (af 1) (af 0)) (cC (.int 301)))) (af 0)))
noncomputable def S12:MS:=(eN (cw (cY aF (af 8) cR (dY (cC (.int 3))))) (gN 9) B0)
noncomputable def S13:MS:=(bP (fR (av gS (ah bo (aa (af 2) ak)))) (aM (cC (.bl false))) aQ)
theorem IV:B1=ay S1 (ay S2 (ay S3 (ay S4 (ay S5 (ay S6 (ay S7 (ay S8 (ay S9 (ay S10 (ay S11 (ay S12 (S13)))))))))))):=rfl
end FC
namespace FC
open PySem L2 L2.FE L2.Srt
noncomputable def CL (n k a:Nat):List Int:=(ND n).map fun(b:Nat)=>Eb n k a b
noncomputable abbrev CT (n k a:Nat):D:=.frl ((CL n k a).map D.int)
noncomputable def FWL (n k a:Nat):List Nat:=(ND n).filter fun(b:Nat)=>decide (Eb n k a b<301)
noncomputable abbrev FW (n k a:Nat):D:=.frl ((FWL n k a).map fun(b:Nat)=>D.int b)
theorem CJ {n k a b:Nat} (hb:b<n){h:Hh}:ixK ((CL n k a).map D.int) (b:Int) h=.ok (.int (Eb n k a b)) h:=by
 have l:(CL n k a).length=n:=by simp[CL]
 have e:gI (CL n k a) b=Eb n k a b:=by rw[dS (by lia)];simp[CL]
 rw[<- e]
 exact eS rfl (by lia)
theorem F4 {S:List Int}{h:Hh}:dNe (.frl (S.map D.int)) (.frl (S.map D.int)) h=.ok (.bl false) h:=by
 have:eqD eqN h (.frl (S.map D.int)) (.frl (S.map D.int))=some true:=by
  show(if (S.map D.int).length=(S.map D.int).length then eqL (eqD 11 h) (S.map D.int) (S.map D.int) else some false)=_
  rw[if_pos rfl,gf];simp
 simp only[dNe,this];rfl
section
variable {d0 d1 y2 y3 y4 y5 y6 y7 y8 y9 y10:Option D}{c:Int}{p:Pen}{h:Hh}{n k a b:Nat}
theorem II:S1 [d0,some (.int c),y2,y3,y4,y5,y6,y7,y8,y9,y10] h=.ok (.nx [d0,some (.int c),some (.ref h.length),y3,y4,y5,y6,y7,y8,y9,y10]) (h++[.lst (bF (zb c))]):=by simp[S1]
theorem Kb:∃(n:Nat) (p':Pen),(1<=n/\n<=8)/\S2 [d0,d1,some (.ref h.length),y3,y4,y5,y6,y7,y8,y9,y10] (h++[.lst (bF p)])=.ok (.nx [d0,d1,some (.ref h.length),some (.int n),y4,y5,y6,y7,y8,y9,y10]) (h++[.lst (bF p')]):=by
 obtain⟨n,e,a,b⟩:=rH p (m:=8) (by decide)
 have e:1+fZ p 8=n:=e
 have d:=k9 (p:=p) (h:=h) (t:=[]) (m:=8) (by decide)
 exact⟨n,iW p 8,⟨a,b⟩,by simp[S2,d,e]⟩
theorem JN (h1:1<=n) (hn:n<=8):∃(k a:Nat) (p':Pen),(k<n/\a<n)/\S3 [d0,d1,some (.ref h.length),some (.int n),y4,y5,y6,y7,y8,y9,y10] (h++[.lst (bF p)])=.ok (.nx [d0,d1,some (.ref h.length),some (.int n),some (.int k),some (.int a),y6,y7,y8,y9,y10]) (h++[.lst (bF p')]):=by
 obtain⟨k,ek,hk⟩:=ph p (m:=n) (by lia)
 have d:=k9 (p:=p) (h:=h) (t:=[]) (m:=(n:Int)) ⟨by lia,by lia⟩
 rw[ek] at d
 obtain⟨a,ea,ha⟩:=ph (iW p n) (m:=n) (by lia)
 have d2:=k9 (p:=iW p n) (h:=h) (t:=[]) (m:=(n:Int)) ⟨by lia,by lia⟩
 rw[ea] at d2
 refine⟨k,a,iW (iW p n) n,⟨hk,ha⟩,?_⟩
 simp[S3,d,d2]
theorem JI (w:Wf h) (h1:1<=n) (hn:n<=8) (hk:k<n):S4 [d0,d1,y2,some (.int n),some (.int k),y5,y6,y7,y8,y9,y10] h=.ok (.nx [d0,d1,y2,some (.int n),some (.int k),y5,y6,y7,y8,y9,y10]) h:=by
 have q:cx tt1 (ah aK (aa (af 1) (aa (af 2) (aa (af 0) ak)))) (fun d=>[some d,some (.int n),some (.int k)]) (cX 0 n) h=.ok (((ND n).map fun(a:Nat)=>Rn (n - 1) a k).map D.int) h:=by
  rw[fG (fun(a:Nat)=>D.int (Rn (n - 1) a k)) (fun i hi=>by
   have f:=nv (n:=n) (k:=k) (a:=i) (h:=h) h1 (by lia) (by lia) (by lia) (by lia) (by lia) w
   simp[f]),ON]
  rfl
 have sm:fI [.frl (((ND n).map fun(a:Nat)=>Rn (n - 1) a k).map D.int)] h=.ok (.int (v8 n k)) h:=by rw[sZ,<- (cA h1 hn hk).1];rfl
 have xc:=yE (h:=h) h1 (by lia) (k:=k) (by lia)
 have z2:(n:Int).natAbs<=1000000:=by lia
 have z3:n<=1000000:=by lia
 generalize ((ND n).map fun(a:Nat)=>Rn (n - 1) a k).map D.int=J at *
 simp[S4,z2,z3,q,sm,xc]
theorem Jv (w:Wf h) (h1:1<=n) (hn:n<=8) (hk:k<n):S5 [d0,d1,y2,some (.int n),some (.int k),y5,y6,y7,y8,y9,y10] h=.ok (.nx [d0,d1,y2,some (.int n),some (.int k),y5,y6,y7,y8,y9,y10]) h:=by
 have q:cx tt1 (ah bJ (aa (af 1) (aa (af 2) (aa (af 0) ak)))) (fun d=>[some d,some (.int n),some (.int k)]) (cX 0 n) h=.ok (((ND n).map fun(a:Nat)=>Rn (n - 1) a ((n:Int) - 1 - k)).map D.int) h:=by
  rw[fG (fun(a:Nat)=>D.int (Rn (n - 1) a ((n:Int) - 1 - k))) (fun i hi=>by
   have f:=A2 (n:=n) (k:=k) (a:=i) (h:=h) h1 (by lia) (by lia) (by lia) (by lia) (by lia) w
   simp[f]),ON]
  rfl
 have sm:fI [.frl (((ND n).map fun(a:Nat)=>Rn (n - 1) a ((n:Int) - 1 - k)).map D.int)] h=.ok (.int (v8 n k)) h:=by rw[sZ,<- (cA h1 hn hk).2];rfl
 have xc:=yE (h:=h) h1 (by lia) (k:=k) (by lia)
 have z2:(n:Int).natAbs<=1000000:=by lia
 have z3:n<=1000000:=by lia
 generalize ((ND n).map fun(a:Nat)=>Rn (n - 1) a ((n:Int) - 1 - k)).map D.int=J at *
 simp[S5,z2,z3,q,sm,xc]
theorem KO (w:Wf h) (h1:1<=n) (hn:n<=8) (hk:k<n) (ha:a<n):S6 [d0,d1,y2,some (.int n),some (.int k),some (.int a),y6,y7,y8,y9,y10] h=.ok (.nx [d0,d1,y2,some (.int n),some (.int k),some (.int a),some (CT n k a),y7,y8,y9,y10]) h:=by
 have q:cx tt1 (ah a_ (aa (af 1) (aa (af 2) (aa (af 3) (aa (af 0) ak))))) (fun d=>[some d,some (.int n),some (.int k),some (.int a)]) (cX 0 n) h=.ok ((CL n k a).map D.int) h:=by
  rw[fG (fun(b:Nat)=>D.int (Eb n k a b)) (fun i hi=>by
   have f:=wI (n:=n) (k:=k) (a:=a) (b:=i) (h:=h) h1 (by lia) (by lia) (by lia) (by lia) (by lia) (by lia) (by lia) w
   simp[f])]
  unfold CL;rw[ON];rfl
 have z2:(n:Int).natAbs<=1000000:=by lia
 have z3:n<=1000000:=by lia
 unfold CT
 generalize (CL n k a).map D.int=J at *
 simp[S6,z2,z3,q]
theorem Km (w:Wf h) (h1:1<=n) (hn:n<=8) (hk:k<n) (ha:a<n):S7 [d0,d1,y2,some (.int n),some (.int k),some (.int a),some (CT n k a),y7,y8,y9,y10] h=.ok (.nx [d0,d1,y2,some (.int n),some (.int k),some (.int a),some (CT n k a),y7,y8,y9,y10]) h:=by
 obtain⟨c1,c2,_,_⟩:=cB h1 hn hk ha
 have sm:fI [CT n k a] h=.ok (.int (Rn (n - 1) a k)) h:=by
  have:fI [CT n k a] h=.ok (.int (CL n k a).sum) h:=sZ
  rw[this,<- c1];rfl
 have f:=nv (n:=n) (k:=k) (a:=a) (h:=h) h1 (by lia) (by lia) (by lia) (by lia) (by lia) w
 have ix:dIx (CT n k a) (.int a) h=.ok (.int (Eb n k a a)) h:=CJ ha
 generalize CT n k a=J at *
 by_cases c:1<n
 ·have c2:=c2 c
  rw[c2] at ix
  have c':(1:Int)<n:=by lia
  simp[S7,sm,f,ix,c,c']
 ·have c':¬ (1:Int)<n:=by lia
  simp[S7,sm,f,c,c']
theorem IW (w:Wf h) (h1:1<=n) (hn:n<=8) (hk:k<n) (ha:a<n):S8 [d0,d1,y2,some (.int n),some (.int k),some (.int a),some (CT n k a),y7,y8,y9,y10] h=.ok (.nx [d0,d1,y2,some (.int n),some (.int k),some (.int a),some (CT n k a),y7,y8,y9,y10]) h:=by
 obtain⟨_,_,c3,_⟩:=cB h1 hn hk ha
 have q:cx tt1 (ah a_ (aa (af 1) (aa (ao a9 (ao a9 (af 1) (cC (.int 1))) (af 2)) (aa (af 0) (aa (af 3) ak))))) (fun d=>[some d,some (.int n),some (.int k),some (.int a)]) (cX 0 n) h=.ok ((CL n k a).map D.int) h:=by
  rw[fG (fun(b:Nat)=>D.int (Eb n k a b)) (fun i hi=>by
   have f:=wI (n:=n) (k:=(n:Int) - 1 - k) (a:=i) (b:=a) (h:=h) h1 (by lia) (by lia) (by lia) (by lia) (by lia) (by lia) (by lia) w
   rw[c3 i hi] at f
   simp[f])]
  unfold CL;rw[ON];rfl
 have z2:(n:Int).natAbs<=1000000:=by lia
 have z3:n<=1000000:=by lia
 have ne:=F4 (S:=CL n k a) (h:=h)
 unfold CT
 generalize (CL n k a).map D.int=J at *
 simp[S8,z2,z3,q,ne]
theorem Kq (w:Wf h) (h1:1<=n) (hn:n<=8) (hk:k<n) (ha:a<n):S9 [d0,d1,y2,some (.int n),some (.int k),some (.int a),y6,y7,y8,y9,y10] h=.ok (.nx [d0,d1,y2,some (.int n),some (.int k),some (.int a),y6,some (.int (Rn (n - 1) a k)),y8,y9,y10]) h:=by
 have f:=nv (n:=n) (k:=k) (a:=a) (h:=h) h1 (by lia) (by lia) (by lia) (by lia) (by lia) w
 simp[S9,f]
theorem F_ (w:Wf h) (h1:1<=n) (hn:n<=8) (hk:k<n) (ha:a<n):S10 [d0,d1,y2,some (.int n),some (.int k),some (.int a),y6,some (.int (Rn (n - 1) a k)),y8,y9,y10] h=.ok (.nx [d0,d1,y2,some (.int n),some (.int k),some (.int a),y6,some (.int (Rn (n - 1) a k)),y8,y9,y10]) h:=by
 obtain⟨_,_,_,c4⟩:=cB h1 hn hk ha
 have f:=nv (n:=n) (k:=(n:Int) - 1 - k) (a:=(n:Int) - 1 - a) (h:=h) h1 (by lia) (by lia) (by lia) (by lia) (by lia) w
 have g:=A2 (n:=n) (k:=(n:Int) - 1 - k) (a:=a) (h:=h) h1 (by lia) (by lia) (by lia) (by lia) (by lia) w
 rw[c4] at f
 rw[show(n:Int) - 1 - ((n:Int) - 1 - k)=k by lia] at g
 have ne:=F4 (S:=[Rn (n - 1) a k,Rn (n - 1) a k]) (h:=h)
 simp only[NV,PZ] at ne
 generalize Rn (n - 1) a k=V at *
 simp[S10,f,g,ne]
theorem HL (hn:n<=8):S11 [d0,d1,y2,some (.int n),y4,y5,some (CT n k a),y7,y8,y9,y10] h=.ok (.nx [d0,d1,y2,some (.int n),y4,y5,some (CT n k a),y7,some (FW n k a),y9,y10]) h:=by
 have q:cx (av asB (ao dLt (ao dIx (af 1) (af 0)) (cC (.int 301)))) (af 0) (fun d=>[some d,some (CT n k a)]) (cX 0 n) h=.ok ((FWL n k a).map fun(b:Nat)=>D.int b) h:=by
  rw[uB (fun(b:Nat)=>decide (Eb n k a b<301)) (fun(b:Nat)=>D.int b) (fun i hi=>⟨by
   have ix:dIx (CT n k a) (.int i) h=.ok (.int (Eb n k a i)) h:=CJ hi
   generalize CT n k a=J at *
   simp[ix],fun _=>by simp⟩)]
  rfl
 have z2:(n:Int).natAbs<=1000000:=by lia
 have z3:n<=1000000:=by lia
 generalize CT n k a=J at *
 unfold FW
 generalize (FWL n k a).map (fun(b:Nat)=>D.int b)=X at *
 simp[S11,z2,z3,q]
theorem K4 (w:Wf h) (h1:1<=n) (hn:n<=8) (hk:k<n) (ha:a<n) (hb:b<n) (c:Eb n k a b<301):∃z10,B0 [d0,d1,y2,some (.int n),some (.int k),some (.int a),some (CT n k a),y7,y8,some (.int b),y10] h=.ok (.nx [d0,d1,y2,some (.int n),some (.int k),some (.int a),some (CT n k a),y7,y8,some (.int b),z10]) h:=by
 have ea:=GF (n:=n) (k:=k) (a:=a) (b:=b) w h1 (by lia) (by lia) (by lia) (by lia) (by lia) (by lia) (by lia) (by lia)
 obtain⟨le,pr⟩:=CU (n:=n) (k:=k) (a:=a) (b:=b) h1 (by lia) (by lia) (by lia) (by lia)
 have ix:dIx (CT n k a) (.int b) h=.ok (.int (Eb n k a b)) h:=CJ hb
 refine⟨some (.frl ((fll n (ebV n k a b) n).map tpI)),?_⟩
 have ok:=DO (n:=n) (B:=ebV n k a b) h1 (by lia) (by lia)
 have st:=Aq (n:=n) (B:=ebV n k a b) (by lia)
 have so:lW aF [.frl ((fll n (ebV n k a b) n).map tpI)] h=.ok (.frl ((fll n (ebV n k a b) n).map tpI)) h:=by
  have l:iH (.frl ((fll n (ebV n k a b) n).map tpI)) h=some ((fll n (ebV n k a b) n).map vn):=rfl
  delta lW;dsimp only
  rw[l]
  dsimp only
  rw[ke]
  dsimp only
  rw[if_pos ok,st];rfl
 have ne:=IK (L:=fll n (ebV n k a b) n) (h:=h)
 have q:cx (av asB (ao dNe (ah gG (aa (ao dIx (af 0) (cC (.int 0))) (aa (ao dIx (af 0) (cUn h8 (cC (.int 1)))) (aa (ah b7 (aa (af 0) ak)) ak)))) (ah gG (aa (af 1) (aa (af 2) (aa (af 3) ak)))))) (af 0) (fun d=>[some d,some (.int a),some (.int b),some (.int k)]) ((fll n (ebV n k a b) n).map tpI) h=.ok [] h:=by
  rw[comp_map tpI (fun _=>false) tpI _ (fun xs hx=>⟨by
   obtain⟨o,e1,e2,e3⟩:=pr xs hx
   have l:=o.len
   have i0:ixK (xs.map D.int) 0 h=.ok (.int (gI xs 0)) h:=eS rfl (by lia)
   have i1:=nU (xs:=xs) (h:=h) (by lia)
   have on:=lK o h1 (by lia) w
   have fa:=jf (xs:=xs) (h:=h) (by lia)
   have l2:(((aY xs).map D.int).length:Int)=k:=by rw[NJ];exact e3
   have nt:=JF (S:=[(a:Int),b,k]) (h:=h)
   simp only[NV,PZ] at nt
   rw[e1] at i0
   rw[e2] at i1
   unfold tpI
   generalize (aY xs).map D.int=FA at *
   generalize xs.map D.int=X at *
   simp[b7,b9,aV,i0,i1,on,fa,l2,nt],fun z=>by cases z⟩)]
  rw[Ra.mpr fun _ _=>by decide]
  rfl
 have n0:dNe (.frl []) (.frl []) h=.ok (.bl false) h:=rfl
 have ll:(((fll n (ebV n k a b) n).map tpI).length:Int)=Eb n k a b:=by rw[NJ];exact le
 have l2:((fll n (ebV n k a b) n).map tpI).length<=1000000:=by lia
 generalize CT n k a=J at *
 generalize (fll n (ebV n k a b) n).map tpI=X at *
 simp[B0,ea,ll,ix,so,ne,q,n0,l2]
theorem HR (w:Wf h) (h1:1<=n) (hn:n<=8) (hk:k<n) (ha:a<n):∃z9 z10,S12 [d0,d1,y2,some (.int n),some (.int k),some (.int a),some (CT n k a),y7,some (FW n k a),y9,y10] h=.ok (.nx [d0,d1,y2,some (.int n),some (.int k),some (.int a),some (CT n k a),y7,some (FW n k a),z9,z10]) h:=by
 have P:∀b∈(FWL n k a).take 3,b<n/\Eb n k a b<301:=fun b hb=>by
  have:=P7 hb
  unfold FWL at this
  obtain⟨m1,m2⟩:=OA.mp this
  exact⟨N3.mp m1,of_decide_eq_true m2⟩
 have cu:cutD ((FWL n k a).map fun(b:Nat)=>D.int b) none (some 3)=((FWL n k a).take 3).map fun(b:Nat)=>D.int b:=by
  rw[jA];exact congrArg _ (tG _ 3)
 have lp:∀(l:List Nat) (y9 y10:Option D),(∀b∈l,b<n/\Eb n k a b<301)->∃z9 z10,eM (gN 9) B0 (l.map fun(b:Nat)=>D.int b) [d0,d1,y2,some (.int n),some (.int k),some (.int a),some (CT n k a),y7,some (FW n k a),y9,y10] h=.ok (.nx [d0,d1,y2,some (.int n),some (.int k),some (.int a),some (CT n k a),y7,some (FW n k a),z9,z10]) h:=by
  intro l
  induction l with
  | nil=>intro y9 y10 _;exact⟨y9,y10,by rw[PZ,yP]⟩
  | cons b l ih=>
   intro y9 y10 hl
   obtain⟨hb,c⟩:=hl b NG
   obtain⟨u,e⟩:=K4 (d0:=d0) (d1:=d1) (y2:=y2) (y7:=y7) (y8:=some (FW n k a)) (y10:=y10) w h1 hn hk ha hb c
   obtain⟨z9,z10,q⟩:=ih (some (.int b)) u (fun x hx=>hl x (ox _ hx))
   refine⟨z9,z10,?_⟩
   rw[NV,jB]
   simp only[Ig,eT,T8]
   rw[e]
   simp only[eT,Kj,q]
 obtain⟨z9,z10,q⟩:=lp _ y9 y10 P
 refine⟨z9,z10,?_⟩
 have l3:(((FWL n k a).take 3).map fun(b:Nat)=>D.int b).length<=1000000:=by rw[NJ];exact N4 (List.length_take_le _ _) (by decide)
 unfold FW at q ⊢
 generalize ((FWL n k a).take 3).map (fun(b:Nat)=>D.int b)=X at *
 generalize (FWL n k a).map (fun(b:Nat)=>D.int b)=Y at *
 generalize CT n k a=J at *
 simp[S12,cu,l3,q]
theorem HX (w:Wf h):∃p',S13 [d0,d1,some (.ref h.length),y3,y4,y5,y6,y7,y8,y9,y10] (h++[.lst (bF p)])=.ok (.nx [d0,d1,some (.ref h.length),y3,y4,y5,y6,y7,y8,y9,y10]) (h++[.lst (bF p')]):=by
 obtain⟨p',e⟩:=K5 (p:=p) w
 exact⟨p',by simp[S13,e]⟩
end
theorem Dl:BJ:=by
 intro ns c y2 y3 y4 y5 y6 y7 y8 y9 y10 h w
 obtain⟨n,p2,⟨h1,hn⟩,e2⟩:=Kb (d0:=some (.scr (ns.map D.int))) (d1:=some (.int c)) (p:=zb c) (h:=h) (y3:=y3) (y4:=y4) (y5:=y5) (y6:=y6) (y7:=y7) (y8:=y8) (y9:=y9) (y10:=y10)
 obtain⟨k,a,p3,⟨hk,ha⟩,e3⟩:=JN (d0:=some (.scr (ns.map D.int))) (d1:=some (.int c)) (p:=p2) (h:=h) (y4:=y4) (y5:=y5) (y6:=y6) (y7:=y7) (y8:=y8) (y9:=y9) (y10:=y10) h1 hn
 have w3:=uc w p3
 obtain⟨z9,z10,e12⟩:=HR (d0:=some (.scr (ns.map D.int))) (d1:=some (.int c)) (y2:=some (.ref h.length)) (y7:=some (.int (Rn (n - 1) a k))) (y9:=y9) (y10:=y10) w3 h1 hn hk ha
 obtain⟨p4,e13⟩:=HX (d0:=some (.scr (ns.map D.int))) (d1:=some (.int c)) (p:=p3) (h:=h) (y3:=some (.int n)) (y4:=some (.int k)) (y5:=some (.int a)) (y6:=some (CT n k a)) (y7:=some (.int (Rn (n - 1) a k))) (y8:=some (FW n k a)) (y9:=z9) (y10:=z10) w
 refine⟨_,_,?_,some (.ref h.length),some (.int n),some (.int k),some (.int a),some (CT n k a),some (.int (Rn (n - 1) a k)),some (FW n k a),z9,z10,rfl,uc w p4⟩
 rw[IV]
 simp only[F3,eT,Jg,II,e2,e3,JI w3 h1 hn hk,Jv w3 h1 hn hk,KO w3 h1 hn hk ha,Km w3 h1 hn hk ha,IW w3 h1 hn hk ha,Kq w3 h1 hn hk ha,F_ w3 h1 hn hk ha,HL hn,e12,e13]
theorem Hw (ns:List Int) (hl:ns.length<=63):∃h,oM [.scr (ns.map D.int)] []=.ok (.bl true) h:=HF Dl ns hl
end FC
open PySem PySem.W PyProof.Rows
local macro_rules | `(tactic| o_head $H)=>`(tactic| (refine holds_open (q:=FC.Q) (loose:=[("numbers_needed_listed" : Str),("numbers_needed_triangle" : Str)]) (Xt:=(fun s=>xlAt FC.Q [] s&&recOk (RowW.records (OpenRow.toRowW (OpenLaw.row PySem.Challenge.rw_fallcounts_k76_whole_ends))) s)) (XP:=XL FC.Q []) (Yf:=Hook.obs $H) (Ya:=Hook.val $H) (YP:=Hook.says $H) (N:=5826) (L2.FE.An (by decide) (by kernel_rfl) (fun _=>by kernel_rfl) FC.K1 FC.JS (fun w os=>by kernel_rfl)) (Hook.of $H) (Hook.keeps $H) (fun s e=>xl_of s (Bool.and_eq_true_iff.mp e).1) XL.keeps (by rfl) (by rfl) (by rfl) (fun s e=>recFacts_of (Bool.and_eq_true_iff.mp e).2) (by rfl) (by first | assumption | decide +kernel) (by decide +kernel) ⟨rfl,rfl,rfl,rfl,rfl,by decide +kernel⟩ ?hw ?hc))
set_option maxRecDepth 100000 in
set_option maxHeartbeats 0 in
theorem PySem.Challenge.cw_fallcounts_k76_whole_ends_holds : PySem.Challenge.rw_fallcounts_k76_whole_ends.Holds := by
 w_on;refine PySem.W.holds_law FC.hw fun hw=>?_;k_head;w_witness2
 k_fill
 refine FC.walk (l:=Pa) rfl rfl (fun w h Y=>by first | exact PySem.W.kIn_of Y | exact PySem.W.km_in_of Y) (fun w h Y=>PySem.W.km_tabs_of Y) (fun _=>by kernel_rfl) FC.Hw ?F
 case F=>
  intro w mg fa h KX G hmg
  refine FC.all_mk KX G hmg (by kernel_rfl) ?T
  case T=>
   constructor
   all_goals first | (refine' L2.FE.Ie ?a ?l ?c ?k;(case a=>k_is);(case l=>k_is);(case c=>k_is);(case k=>k_is)) | (refine' L2.FE.DB ?a ?l ?c ?k;(case a=>k_is);(case l=>k_is);(case c=>k_is);(case k=>k_is)) | (refine' L2.FE.Ks ?a ?l ?c ?k ?h1 ?h2 ?h3;(case a=>k_is);(case l=>k_is);(case c=>k_is);(case k=>k_is);(case h1=>kernel_rfl);(case h2=>kernel_rfl);(case h3=>kernel_rfl)) | exact⟨_,rfl⟩ | k_is
