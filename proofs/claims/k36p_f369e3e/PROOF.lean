import PyProof.Rows.All
import Wide.All
import OpenK.AllK
import Wide.FinOn
import Lean
import KE.KNestM
import PyProof.EqAt
import PyProof.EqKinds
import PyProof.TupleCall
import PyProof.EnumMake
import PyProof.Draws
import KE.KDictList
import KE.KTryMore
import KE.KEqDict
import PyProof.ExcInit
import PyProof.InstStoreFacts
import KE.KSortTup
import PySem.Challenge.RW_fallcounts_k36_whole_sets
set_option Elab.async false
set_option linter.all false
set_option maxRecDepth 100000
set_option maxHeartbeats 8000000
open PySem.W renaming Frag→gV,mg_none_of→Mw,nsIn→Mz,kia_one→MZ,fnOf→M0,keepIn→M5,envX→Nm,boot_heap→Np,codeHdIn→Nz,kitOne→ND,kla_obj→NG,cellsFrom_some→Ov,codeIn→OK,tabObj→OM,mg_of→OZ,callWith_K→PV,methodObj→P0,kitx_dict→P2,instObj→Qg,boot_drawn→Qo,lookIn→Qs,boot_toks→Qw,SharedT→Ri,OpenLaw→Rj
open PySem renaming wpAny_bind→k3,wpAny_pure→LJ,Value→LM,Shared→LP,Program→Mc,boot_len→MG,World→MU,sizeLine_eq→MV,Around→MY,wpAny_newObj_type→Nl,wpAny_field→Nt,wpAny_callSpecial?_slot→Nu,wpAny_mono→Nw,wpAny_call_entry→Ny,wpAny_truthy_bool→NB,Builtin→NC,wpAny_pyIter_tuple→NK,wpAny_holding→NO,NameKind→NW,wpAny_setField_rec→N3,wpAny_seqItems→N5,wpAny_passesOwn→N8,codeAny_mono→Of,wpAny_standAt→Og,mem_of_lookup→Oh,IsPair→OB,wpAny_newFunctionEnv→OH,lookup_relabel_local→OI,wpAny_comprehension_free→OU,wpAny_Call_Name_kw→OW,codeAny_compStart_list→O5,wpAny_pyIter_enum→Pb,FuncData→Pf,Scope→Pg,wpAny_pyIter_zip→Po,wpAny_loadName_local→Pq,wpAny_updateSeq_pair→Pr,wpAny_rule→Py,wpAny_execs_nil→PB,wpAny_assign_Name→P1,wpAny_pyIter_list→P4,wpAny_noRaise→P5,wpAny_onRaise→P7,wpAny_newList→P9,wpAny_eqBool_int→Qa,noFill_tuple_add→Qb,wpAny_loadPart'→Qk,wpAny_Name→Qp,IsZip→Qr,wpAny_newTuple→Qt,Arguments→Qx,seq_tuple_add→Qy,IsPart→Qz,ZipApart→QB,wpAny_attempt→QC,wpAny_call→QJ,concat_meets→QM,wpAny_typeOf→QN,seqIndex_neg→QO,codeAny_loop→QP,OsState→QZ,PassesOwn→Q1,BindsTo→Q3,seqIndex_of→Q4,wpAny_noted→Q5,wpAny_letGo→Q7,typeIs_int→Rb,call_meets→Rc,call→Rf,IsEnum→Rq,Keyword→Ru
open PySem.Heap renaming get?_push_of_some→ox,lt_size→LI,get?_push_size→LN,size_push→NT,SameBut→Ph,IsTuple→Qj
open List renaming mem_cons_of_mem→td,mem_append_right→tv,range→LK,mem_cons_self→LL,length_map→LQ,mem_cons→LR,getElem?_eq_getElem→LU,getElem?_append_left→LV,map_cons→LW,mem_singleton→LX,getElem?_append_right→LY,all_eq_true→L4,mem_map→L5,pairwise_cons→L6,pairwise_append→L8,map_congr_left→L9,filter_cons→L_,size_toArray→Mb,getElem?_map→Me,map_map→Mf,length_cons→Mi,mem_filter→Mj,mem_append→Ml,length_append→Mn,replicate→Mq,append_assoc→Mr,mem_of_getElem?→Ms,mem_range→Mt,getElem?_eq_some_iff→Mu,getElem?_eq_none_iff→Mv,pairwise_iff_getElem→MB,range_succ_eq_map→MD,pairwise_map→MH,getElem?_eq_none→MJ,drop_eq_getElem_cons→MM,getD_eq_getElem?_getD→MR,nil_append→M1,filter_eq_self→M4,not_mem_nil→M6,any_eq_true→M8,pairwise_singleton→M_,filter_congr→Na,filter_eq_nil_iff→Nc,length_take→Nf,cons_append→Ng,eq_nil_of_length_eq_zero→Nh,sum_cons→Ni,append_nil→NF,take_append_drop→NH,length_filter_le→NJ,filter_filter→NM,all_cons→NP,map_nil→NS,take_of_length_le→NX,drop_eq_nil_of_le→NY,any_cons→N1,getElem?_drop→N2,range_eq_range'→N6,nodup_cons→N9,map_append→Oc,range_succ→Od,filter_map→Oe,getElem?_replicate→Oj,take_append_of_le_length→Oo,getElem_mem→Oq,getElem?_take→Ow,filter_append→Oy,foldl_cons→Oz,ext_getElem?→OE,mem_append_left→OG,drop_drop→ON,prefix_refl→OO,replicate_succ→OP,length_reverse→OR,sum_append→OY,take_left'→O0,getElem?_set_self→O1,drop_of_length_le→O6,pairwise_lt_range→O7,any_eq_false→O8,take_sublist→O9,length_range→Pd,flatMap_cons→Pe,length_replicate→Pj,ext_getElem→Pn,flatMap_def→Pp,mem_iff_getElem→Pt,mem_of_mem_take→Pu,of_mem_zip→PC,forIn_cons→PF,getElem?_range→PJ,filter_reverse→PR,range'→P6,zipIdx_cons→Qc,map_flatMap→Qe,drop_zero→Qu,Pairwise→QF,Perm→QG,foldl→QK,all_nil→QR,Nodup→Rh,set→Ro,take→Rt,map→Rw
open Nat renaming le_refl→LH,ne_of_lt→LZ,le_trans→L0,lt_of_lt_of_le→Ma,lt_irrefl→MN,lt_succ_self→M7,zero_le→Nj,lt_or_eq_of_le→Nv,pow_le_pow_right→NN,zero_add→NQ,ne_of_gt→NR,le_add_right→Om,lt_succ_of_lt→Pa,le_succ→Pc,not_lt→Pz,not_lt_zero→PL,min_eq_left→PQ,le_of_lt→Qi,lt_trans→Ql,le_of_eq→Qm,lt_or_ge→Qn,add_assoc→QH,sub_self→QV,pow_succ→QW,beq→Q8,add_mul→Q9,succ→Rm,blt→Rv
open Eq renaming trans→LO
open PyProof.Rows renaming SortSt→L7,boot_tuple→Mo,Keyed→Mx,slot_tuple_getitem→MP,callWith_type1→Nr,boot_sum→NI,IntsAre→Oi,SortKind→Ox,boot_max→Pk,boot_int→Pl,listUpdate_at→P8,AllBare→Qh,seqEpoch_at→Qv,sortedAll_old→QE,listItems_at→QT,sortedAll_at→QU,step_dedup→Rg
open Array renaming getElem?_toList→Md,getElem_mem→Mp,length_toList→ML,mem_toList_iff→Nx,getElem?_eq_none→NA,getElem_extract→OC,toList_map→Qd
open PySem.Challenge renaming pw_fallcounts_k36_whole_sets→Mk,rw_fallcounts_k36_whole_sets→Nn
open Bool renaming false_ne_true→Mm,and_eq_true→MC,false_eq_true→MW,eq_iff_iff→M3,not_true→Pw,not_false→PZ,and_true→QD,true_and→QI
open PySem.PassesOwn renaming never→MQ
open PySem.SeqAt renaming EqAt→M9,RcNeAt→QA
open Int renaming mul_le_mul_of_nonneg_right→Nb,le_refl→NV,add_zero→PX,lt_of_lt_of_le→PY,pow_pos→P_,zero_add→QX,le_of_lt→QY
open PySem.Builtin.SmallTypes renaming nextOf→Nd,ownedTupleIsFree→Nk
open Option.some renaming inj→Nq
open ForInStep renaming yield→NU
open PySem.W.Fast renaming tw5923862056798008813→NZ
open PySem.F renaming slot_tuple_iterator_next→N0,called_set→OA,args_tuple_add_2→OS,entry_tuple_add→OX,slot_tuple_add→O2,slot_zip_next→PM
open PySem.Builtin.Slice renaming slicePlaces→N4,sliceAdjust→OL
open PySem.Value renaming none→N7,int→Ol,type→Ot,ref→OJ,bool→Ra,str→Rp
open Option renaming isSome_iff_exists→N_,map_eq_some_iff→Ou,map_some→PK,map→Q_
open PySem.Builtin.Tuple renaming tupleExact→Oa
open PySem.Obj renaming mapSeq→Ob
open PySem.NameKind renaming free→OD
open PySem.Calls renaming Name_function_global→OF,spliced_cons→PU
open PySem.Builtin.Int renaming intBits→OQ
open PySem.Builtin.List renaming listTooLong→OT
open List.Pairwise renaming imp_of_mem→OV,nil→O_
open False renaming elim→Px
open Or renaming inl→PH,inr→QQ
open List.cons renaming injEq→PN
open PySem.Str renaming ofString→Qf
open True renaming intro→Qq
open PyProof.Rows.SortSt renaming mk'→QL
open Ne renaming symm→Q0
open PySem.Shared renaming heap→Q6
open Sum renaming inl→Rk,inr→Rl
open PySem.Expr renaming Name→Rr
namespace L2.FE
open PySem PySem.W PySem.Calls
noncomputable def BX:List Obj->BT->Nat->Option BT
 | [],t,_=>some t
 | o::r,t,n=>match ((t.ins n o).get n).isSome with
  | true=>BX r (t.ins n o) (n+1)
  | false=>none
theorem rJ {life:Life}:∀{r:List Obj}{t T:BT}{n:Nat}{a:Array Obj},BX r t n=some T->absHeap t n life=⟨a,life⟩->absHeap T (n+r.length) life=⟨a++r.toArray,life⟩
 | [],t,T,n,a,h,e=>by cases h;simpa using e
 | o::r,t,T,n,a,h,e=>by
  unfold BX at h
  cases g:((t.ins n o).get n).isSome with
  | false=>rw[g] at h;cases h
  | true=>
   rw[g] at h
   have x:absHeap (t.ins n o) (n+1) life=⟨a.push o,life⟩:=by rw[absHeap_ins g,e];rfl
   have:=rJ h x
   rw[Mi,show n+(r.length+1)=n+1+r.length by omega,this]
   simp
noncomputable def xM (p:Mc) (w:MU) (n₀:Nat) (ann:Option LM):Nat->Ri->Thread->Option Ri
 | 0,_,_=>none
 | n+1,s,t=>match through t with
  | true=>some s
  | false=>match PySem.W.Fast.tw6613529449190102663 n₀ ann t with
   | false=>none
   | true=>match PySem.W.Fast.tw10156331382660048174 (PySem.W.Fast.tw11892475500146522536 PySem.W.Fast.tw14364793385576792824) p w s t with
    | some (s',t')=>xM p w n₀ ann n s' t'
    | none=>none
theorem t_ {p:Mc}{w:MU}{n₀:Nat}{ann:Option LM}:∀{n:Nat}{s r:Ri}{t:Thread},xM p w n₀ ann n s t=some r->topRun treeTable p w n₀ ann n s.abs t=some r.abs
 | 0,_,_,_,h=>by cases h
 | n+1,s,r,t,h=>by
  unfold xM at h
  unfold topRun
  cases ht:through t with
  | true=>rw[ht] at h;cases h;rfl
  | false=>
   rw[ht,<- PySem.W.Fast.te6613529449190102663] at h
   cases hk:stepOk n₀ ann t with
   | false=>simp only[hk] at h;cases h
   | true=>
    simp only[hk] at h
    rw[<- PySem.W.Fast.te10156331382660048174,<- PySem.W.Fast.te11892475500146522536,<- PySem.W.Fast.te14364793385576792824] at h
    cases hs:stepT (denote treeTable) p w s t with
    | none=>rw[hs] at h;cases h
    | some x=>obtain⟨s₂,t₂⟩:=x;rw[hs] at h;rw[stepT_spec hs];exact t_ h
noncomputable def oW (p:Mc) (w:MU) (N:Nat) (os:QZ):Option Ri:=
 match (Np w.params).isNs mainGlobals with
 | true=>(BX (Np w.params).objs.toList .nil 0).bind fun T=>xM p w (Np w.params).objs.size ((Np w.params).nsMap mainGlobals (Qf "__annotations__")) N ⟨T,(Np w.params).objs.size,(Np w.params).life,#[],Qo,Qw,os⟩ (topStub p)
 | false=>none
noncomputable def By (p:Mc) (w:MU) (s₁:LP):Bool:=staticsOk (NZ p.main.body) (Np w.params) s₁.heap&&namesBound p s₁.heap&&gensDone s₁&&laidKept (Np w.params) s₁.heap
theorem yt {p q:Mc}{loose:List Str}{Xt:LP->Bool}{α:Type}{Yf:LP->α}{Ya:MU->α}{N:Nat} (hN:Nat.ble 600 N=true) (e:opening p=plainProg p.main.scope.names) (f:∀s,fenceModules? p s=some s)
  (h1:∀(w:MU) (os:QZ),(oW p w N os).map (fun s=>By p w s.abs)=some true)
  (h2:∀(w:MU) (os:QZ),(oW p w N os).map (fun s=>PySem.W.Fast.tw4187177175401517315 q loose (NZ p.main.body) Xt true s.abs)=some (openGood q loose))
  (h3:∀(w:MU) (os:QZ),(oW p w N os).map (fun s=>Yf s.abs)=some (Ya w)):LeftO p q loose Xt Yf Ya N:=fun w=>by
 obtain⟨s,hs,e'⟩:=Ou.mp (boot_open e hN f w)
 obtain⟨H,gs,d,k,os⟩:=s
 obtain⟨rfl,rfl,rfl,rfl⟩:H=Np w.params/\gs=_/\d=Qo/\k=Qw:=by simpa using e'
 obtain⟨r,hr,l1⟩:=Ou.mp (h1 w os)
 obtain⟨r2,hr2,l2⟩:=Ou.mp (h2 w os)
 obtain⟨r3,hr3,l3⟩:=Ou.mp (h3 w os)
 obtain rfl:r=r2:=Nq (hr.symm.trans hr2)
 obtain rfl:r=r3:=Nq (hr.symm.trans hr3)
 unfold By at l1
 rw[<- PySem.W.Fast.te5923862056798008813] at l1
 rw[<- PySem.W.Fast.te4187177175401517315,<- PySem.W.Fast.te5923862056798008813] at l2
 unfold oW at hr
 cases hn:(Np w.params).isNs mainGlobals with
 | false=>rw[hn] at hr;cases hr
 | true=>
  rw[hn] at hr
  obtain⟨T,hT,hr⟩:=Option.bind_eq_some_iff.mp hr
  have z:=rJ (life:=(Np w.params).life) (n:=0) (a:=#[]) hT rfl
  have z':absHeap T (Np w.params).objs.size (Np w.params).life=Np w.params:=by
   rw[NQ,ML] at z
   rw[z]
   simp
  have hr:=t_ hr
  have st:(Ri.mk T (Np w.params).objs.size (Np w.params).life #[] Qo Qw os).abs=⟨Np w.params,#[],Qo,Qw,os⟩:=by
   show LP.mk _ _ _ _ _=_
   rw[z']
  rw[st] at hr
  unfold openEnds
  rw[hs]
  show Q_ _ (topFrom treeTable p w N _)=_
  have t:topFrom treeTable p w N ⟨Np w.params,#[],Qo,Qw,os⟩=some r.abs:=by
   unfold topFrom
   dsimp only
   rw[hn]
   rw[hr]
   show(match staticsOk (importedModules p.main.body) (Np w.params) r.abs.heap&&namesBound p r.abs.heap&&gensDone r.abs&&laidKept (Np w.params) r.abs.heap with | true=>_ | false=>_)=_
   rw[l1]
  rw[t]
  show some (openSeen q loose (importedModules p.main.body) Xt true r.abs,Yf r.abs)=_
  rw[l2,l3]
noncomputable def viewOf (p:Mc) (keep:List Nat):Mc:={ p with main:={ p.main with body:=keep.filterMap fun i=>p.main.body[i]? } }
end L2.FE
section
open PySem PySem.W PyProof.Rows
noncomputable def FC.Q:Mc:=L2.FE.viewOf Mk [1,2,3,4,5,7,8,9,10,12,13,14,15,16,17,19,20,21,23,24,25,26,27,28,29,30,31,32,33,34,35,36,37,38,39,40,42,43,44,45,46,48,49,50,51,52,53]
theorem FC.IQ:∀(w:MU) (os:QZ),(L2.FE.oW Mk w 4620 os).map (fun s=>L2.FE.By Mk w s.abs)=some true:=fun w os=>by kernel_rfl
theorem FC.IE:∀(w:MU) (os:QZ),(L2.FE.oW Mk w 4620 os).map (fun s=>PySem.W.Fast.tw4187177175401517315 FC.Q [] (NZ Mk.main.body) (fun s=>xlAt FC.Q [] s&&recOk (RowW.records (OpenRow.toRowW (Rj.row Nn))) s) true s.abs)=some (openGood FC.Q []):=fun w os=>by kernel_rfl
theorem FC.hw:Nn.wellSaid=true:=by kernel_rfl
end
namespace L2
open PySem PySem.Spec PyProof.Rows
noncomputable abbrev Key:=Sum Int Str
noncomputable def DJ:Key->LM->Bool
 | .inl k,v=>LM.isInt k v
 | .inr x,v=>LM.isStrOf x v
noncomputable def JU (w:MU):Key->Int
 | .inl k=>hashInt k
 | .inr x=>hashStr w x
theorem cw:∀{k:Key}{v:LM},DJ k v=true->(∃i t,k=Rk i/\v=Ol i t)\/(∃x t,k=Rl x/\v=Rp x t)
 | .inl i,v,h=>by
  obtain⟨t,e⟩:=LM.isInt_shape (k:=i) (v:=v) h
  simp_all
 | .inr x,v,h=>by
  obtain⟨t,e⟩:=LM.isStrOf_shape (x:=x) (v:=v) h
  simp_all
theorem El (a b):decide ((Rk a:Key)=Rk b)=(a == b):=by
 grind
theorem EL (a b):decide ((Rl a:Key)=Rl b)=decide (a=b):=by
 simp
theorem EI (a:Int) (b:Str):decide ((Rk a:Key)=Rl b)=false:=decide_eq_false (fun q=>nomatch q)
theorem E4 (a:Str) (b:Int):decide ((Rl a:Key)=Rk b)=false:=decide_eq_false (fun q=>nomatch q)
noncomputable def qX (prog) (w):PySem.KeyKind prog w Key where
 is:=DJ
 hash:=JU w
 inj:=fun v a b ha hb=>by
  rcases cw ha with⟨i,t,rfl,rfl⟩ | ⟨x,t,rfl,rfl⟩
  ·rcases cw hb with⟨j,u,rfl,e⟩ | ⟨y,u,rfl,e⟩
   ·injection e with e1 _;rw[e1]
   ·exact nomatch e
  ·rcases cw hb with⟨j,u,rfl,e⟩ | ⟨y,u,rfl,e⟩
   ·exact nomatch e
   ·injection e with e1 _;rw[e1]
 byValue:=fun k v h=>by
   rcases cw h with⟨i,t,rfl,rfl⟩ | ⟨x,t,rfl,rfl⟩<;>rfl
 pyHash:=fun hv h=>by
  rcases cw hv with⟨i,t,rfl,rfl⟩ | ⟨x,t,rfl,rfl⟩
  ·exact wpAny_pyHash_int h
  ·exact wpAny_pyHash_str h
 eqBool:=fun hu hv h=>by
  rcases cw hu with⟨i,t,rfl,rfl⟩ | ⟨x,t,rfl,rfl⟩
  ·rcases cw hv with⟨j,u,rfl,rfl⟩ | ⟨y,u,rfl,rfl⟩
   ·rw[El] at h;exact Qa h
   ·rw[EI] at h;exact M9.int_str i t y u _ _ _ _ h
  ·rcases cw hv with⟨j,u,rfl,rfl⟩ | ⟨y,u,rfl,rfl⟩
   ·rw[E4] at h;exact M9.str_int x t j u _ _ _ _ h
   ·rw[EL] at h;exact wpAny_eqBool_str h
 «strs»:=fun k x t v h=>by
  rcases cw h with⟨i,u,rfl,e⟩ | ⟨y,u,rfl,e⟩
  ·exact nomatch e
  ·injection e with e1 _
   subst e1
   cases v<;>rfl
inductive V where
 | non | bl (b:Bool) | int (i:Int) | str (x:Str) | byt (b:Array UInt8) | flt (b:UInt64) | ref (a:Addr) | ty (n:String)
 deriving DecidableEq
noncomputable def RelV:V->LM->Prop
 | .non,u=>u=N7
 | .bl b,u=>u=Ra b
 | .int i,u=>∃t,u=Ol i t
 | .str x,u=>∃t,u=Rp x t
 | .byt b,u=>∃t,u=LM.bytes b t
 | .flt b,u=>∃t,u=LM.float b t
 | .ref a,u=>u=OJ a
 | .ty n,u=>u=Ot n
noncomputable abbrev Vals:List V->List LM->Prop:=Paired RelV
theorem Vals.length (r:Vals xs us):xs.length=us.length:=Paired.length r
theorem Vals.get:∀{xs:List V}{us:List LM}{i:Nat}{x:V},Vals xs us->xs[i]?=some x->∃u,us[i]?=some u/\RelV x u
 | _,_,_,_,.nil,e=>by simp at e
 | _,_,0,_,.cons r _,e=>by simp_all
 | _,_,i+1,x,.cons _ t,e=>by
  obtain⟨u,h1,h2⟩:=Vals.get (i:=i) (x:=x) t (by simp_all)
  simp_all
theorem Vals.set {x:V}{u:LM} (r:RelV x u):∀{xs:List V}{us:List LM} (i:Nat),Vals xs us->Vals (xs.set i x) (us.set i u)
 | _,_,_,.nil=>.nil
 | _,_,0,.cons _ t=>.cons r t
 | _,_,i+1,.cons q t=>.cons q (Vals.set r i t)
theorem Vals.append:∀{xs ys:List V}{us ws:List LM},Vals xs us->Vals ys ws->Vals (xs++ys) (us++ws)
 | _,_,_,_,.nil,s=>s
 | _,_,_,_,.cons r t,s=>.cons r (Vals.append t s)
theorem Vals.take:∀{xs:List V}{us:List LM} (n:Nat),Vals xs us->Vals (xs.take n) (us.take n)
 | _,_,0,_=>.nil
 | _,_,_+1,.nil=>.nil
 | _,_,n+1,.cons r t=>.cons r (Vals.take n t)
theorem Vals.drop:∀{xs:List V}{us:List LM} n , Vals xs us->Vals (xs.drop n) (us.drop n)
 | _,_,0,r=>r
 | _,_,_+1,.nil=>.nil
 | _,_,n+1,.cons _ t=>Vals.drop n t
noncomputable def E9:Option V->Option LM->Prop
 | some v,some u=>RelV v u
 | none,none=>True
 | _,_=>False
noncomputable def KV:List (κ × V)->List (κ × LM)->Prop:=Paired fun(p:κ × V) (q:κ × LM)=>p.1=q.1/\RelV p.2 q.2
noncomputable def kV:Key->V
 | .inl i=>.int i
 | .inr x=>.str x
inductive HO where
 | lst (xs:List V)
 | tup (xs:List V)
 | dK (kvs:List (Key × V)) | dT (kvs:List (List Key × V))
 | set (S:Int->Bool) (n:Nat)
 | ins (C dx:Addr) (fs:List (Str × V))
 | own (x:Addr)
 | xd (fs:List (Str × V))
 | met (f x:Addr)
 | rng (lo hi:Int)
 | frz (o:Obj) (u:HO)
 | tbl (ps:Array LM)
 | ext (φ:Heap->Prop)
noncomputable abbrev Hp:=Addr->Option HO
noncomputable def upd (H:Hp) (a:Addr) (o:HO):Hp:=fun b=>if b=a then some o else H b
theorem a8:upd H a o a=some o:=by unfold upd;simp
theorem aK (h:b≠a):upd H a o b=H b:=by unfold upd;simp_all
theorem br {H:Hp} (h:H a=some o) (h':H b=none):a≠b:=by
 grind
noncomputable def kx (h:Heap) (a:Addr) (its:Array LM):Prop:=∃o,h.get? a=some o/\(o.cls=.type "tuple" /\ ∃n,o.data=.seq its n)/\o.dict=none
theorem kx.tup {h:Heap}{a:Addr}{its:Array LM} (x:kx h a its):IsTup h a its:=let ⟨o,e,⟨c,n,d⟩,_⟩:=x;⟨o,e,c,n,d⟩
theorem kx.new (h:Heap) (its):kx (h.push { cls:=.type "tuple", data:=.seq its }) h.objs.size its:=⟨_,LN _ rfl,⟨rfl,_,rfl⟩,rfl⟩
section
variable (P:Mc) (w:MU)
noncomputable def cL (H:Hp) (h:Heap) (a:Addr):HO->Prop
 | .lst xs=>xs.length<=sizeLine/\∃its n,Vals xs its/\h.get? a=some { cls:=.type "list", data:=.seq its.toArray n }
 | .tup xs=>xs.length<=sizeLine/\∃its:List LM,Vals xs its/\kx h a its.toArray
 | .dK kvs=>kvs.length<=sizeLine/\(a == sysModules)=false/\∃vs,KV kvs vs/\h.DictOf (qX P w) a vs
 | .dT kvs=>kvs.length<=sizeLine/\(a == sysModules)=false/\∃xs:List (List Key × Addr × LM),
   Paired (fun(p:List Key × V) (q:List Key × Addr × LM)=>p.1=q.1/\H q.2.1=some (.tup (p.1.map kV))/\RelV p.2 q.2.2) kvs xs ∧
   ∃o es ep,h.get? a=some o/\o.ExactDict/\o.data=.dict es ep/\es.toList=xs.map (entryOfKey (tupleKind (qX P w)))/\(xs.map (·.1)).Nodup
 | .set S n=>h.SetOf (intKind P w) a S n
 | .ins C dx fs=>H dx=some (.own a)/\fs.length<=1000/\dx≠a/\h.get? a=some (Qg C dx) ∧
   ∃mA,h.Ns1 dx mA/\(∀f,E9 (fs.lookup f) (mA f))/\PySem.Within mA (fs.map (·.1))
 | .own _=>∃o,h.get? a=some o
 | .xd fs=>∃mA,h.Ns1 a mA/\∀f,E9 (fs.lookup f) (mA f)
 | .rng lo hi=>∃t u v,h.get? a=some { cls:=.type "range", data:=.fields #[.int lo t,.int hi u,.int 1 v] }
 | .frz o u=>h.get? a=some o/\cL H h a u
 | .tbl ps=>h.get? a=some { cls:=.none,data:=.fields ps }
 | .met f x=>h.get? a=some (P0 (.ref f) (.ref x))
 | .ext φ=>φ h/\(∃o,h.get? a=some o)/\∀h1 h2:Heap,φ h1->(∀o,h1.get? a=some o->h2.get? a=some o)->φ h2
noncomputable def HOk (H:Hp) (h:Heap):Prop:=∀a o,H a=some o->cL P w H h a o
end
section
variable {P:Mc}{w:MU}{H H':Hp}{h h':Heap}{a:Addr}{o:HO}
theorem cL.lt (x:cL P w H h a o):a<h.objs.size:=by
 cases o with
 | lst xs=>obtain⟨_,_,_,_,e⟩:=x;exact LI e
 | tup xs=>obtain⟨_,_,_,_,e,_⟩:=x;exact LI e
 | dK kvs=>obtain⟨_,_,_,_,o,_,_,e,_⟩:=x;exact LI e
 | dT kvs=>obtain⟨_,_,_,_,o,_,_,e,_⟩:=x;exact LI e
 | set S n=>obtain⟨o,_,_,_,e,_⟩:=x;exact LI e
 | ins C dx fs=>obtain⟨_,_,_,e,_⟩:=x;exact LI e
 | own y=>obtain⟨_,e⟩:=x;exact LI e
 | xd fs=>obtain⟨_,⟨_,_,_,e,_⟩,_⟩:=x;exact LI e
 | rng lo hi=>obtain⟨_,_,_,e⟩:=x;exact LI e
 | frz ob u=>obtain⟨e,_⟩:=x;exact LI e
 | tbl ps=>exact LI (show h.get? a=some _ from x)
 | met f y=>exact LI (show h.get? a=some _ from x)
 | ext φ=>obtain⟨_,⟨_,e⟩,_⟩:=x;exact LI e
theorem Paired.rB {α β:Type}{F G:α->β->Prop}:∀{l₁:List α}{l₂:List β},Paired F l₁ l₂->(∀a b,F a b->G a b)->Paired G l₁ l₂
 | _,_,.nil,_=>.nil
 | _,_,.cons r t,f=>.cons (f _ _ r) (Paired.rB t f)
theorem cL.kj (x:cL P w H h a o) (k:∀b u,(b=a\/H b=some (.own a))->h.get? b=some u->h'.get? b=some u)
  (ho:∀b,H b=some (.own a)->H' b=some (.own a)) (ht:∀b xs,H b=some (.tup xs)->H' b=some (.tup xs)):cL P w H' h' a o:=by
 induction o with
 | lst xs=>obtain⟨z,its,n,r,e⟩:=x;exact⟨z,its,n,r,k _ _ (.inl rfl) e⟩
 | tup xs=>obtain⟨z,its,r,ob,e,c⟩:=x;exact⟨z,its,r,ob,k _ _ (.inl rfl) e,c⟩
 | dK kvs=>obtain⟨z,y,vs,r,ob,es,ep,e,c⟩:=x;exact⟨z,y,vs,r,ob,es,ep,k _ _ (.inl rfl) e,c⟩
 | dT kvs=>
  obtain⟨z,y,xs,r,ob,es,ep,e,c⟩:=x
  exact⟨z,y,xs,Paired.rB r fun p q z=>⟨z.1,ht _ _ z.2.1,z.2.2⟩,ob,es,ep,k _ _ (.inl rfl) e,c⟩
 | set S n=>obtain⟨ob,es,ep,t,e,c⟩:=x;exact⟨ob,es,ep,t,k _ _ (.inl rfl) e,c⟩
 | ins C dx fs=>
  obtain⟨d,z,ne,e,mA,⟨od,es,ep,e2,c⟩,r⟩:=x
  exact⟨ho _ d,z,ne,k _ _ (.inl rfl) e,mA,⟨od,es,ep,k _ _ (.inr d) e2,c⟩,r⟩
 | own y=>obtain⟨ob,e⟩:=x;exact⟨ob,k _ _ (.inl rfl) e⟩
 | xd fs=>obtain⟨mA,⟨od,es,ep,e,c⟩,r⟩:=x;exact⟨mA,⟨od,es,ep,k _ _ (.inl rfl) e,c⟩,r⟩
 | rng lo hi=>obtain⟨t,u,v,e⟩:=x;exact⟨t,u,v,k _ _ (.inl rfl) e⟩
 | frz ob u ih=>obtain⟨e,q⟩:=x;exact⟨k _ _ (.inl rfl) e,ih q⟩
 | tbl ps=>
  have e:h.get? a=some { cls:=.none,data:=.fields ps }:=x
  show h'.get? a=some { cls:=.none,data:=.fields ps }
  simp_all
 | met f y=>
  have e:h.get? a=some (P0 (.ref f) (.ref y)):=x
  show h'.get? a=some (P0 (.ref f) (.ref y))
  simp_all
 | ext φ=>obtain⟨p,⟨o,e⟩,st⟩:=x;exact⟨st _ _ p fun o q=>k _ _ (.inl rfl) q,⟨o,k _ _ (.inl rfl) e⟩,st⟩
theorem HOk.lt (x:HOk P w H h) (e:H a=some o):a<h.objs.size:=(x a o e).lt
theorem HOk.fresh (x:HOk P w H h) (e:h.objs.size<=a):H a=none:=by
 cases q:H a with
 | none=>rfl
 | some u=>exact absurd (Ma (x.lt q) e) (MN _)
theorem HOk.kept (x:HOk P w H h) (k:∀b u,h.get? b=some u->h'.get? b=some u):HOk P w H h':=fun a o e=>
 (x a o e).kj (fun b u _ q=>k b u q) (fun _ q=>q) fun _ _ q=>q
theorem HOk.laid (x:HOk P w H h) (k:∀b u,h.get? b=some u->h'.get? b=some u) (hp:h.objs.size<=a) (new:cL P w (upd H a o) h' a o):HOk P w (upd H a o) h':=fun b u e=>by
 have hn:=x.fresh hp
 by_cases hb:b=a
 ·subst hb;rw[a8] at e;simp_all
 ·rw[aK hb] at e
  exact(x b u e).kj (fun c v _ q=>k c v q) (fun c q=>by rw[aK (br q hn)];exact q) fun c xs q=>by rw[aK (br q hn)];exact q
end
noncomputable def Rd (H:Hp) (a:Addr) (u:HO):Prop:=H a=some u\/∃o,H a=some (.frz o u)
theorem Rd.ok (r:Rd H a u) (x:HOk P w H h):cL P w H h a u:=by
 rcases r with r | ⟨o,r⟩
 ·exact x a u r
 ·obtain⟨_,q⟩:=x a _ r
  exact q
noncomputable def Mut:Option HO->Prop
 | some (.lst _)=>True
 | some (.dK _)=>True
 | some (.dT _)=>True
 | some (.set _ _)=>True
 | some (.ins _ _ _)=>True
 | some (.ext _)=>True
 | _=>False
section
variable {P:Mc}{w:MU}{H:Hp}{h h':Heap}{x e:Addr}{o':HO}
theorem HOk.write (ok:HOk P w H h) (mu:Mut (H x)) (he:e=x\/H e=some (.own x)) (k:∀b u,b≠e->h.get? b=some u->h'.get? b=some u) (heo:∃u,h'.get? e=some u)
  (new:cL P w (upd H x o') h' x o'):HOk P w (upd H x o') h':=fun b u q=>by
 have nown:∀c y,H c=some (.own y)->c≠x:=fun c y r z=>by subst z;rw[r] at mu;exact mu
 have ntup:∀c xs,H c=some (.tup xs)->c≠x:=fun c xs r z=>by subst z;rw[r] at mu;exact mu
 by_cases hb:b=x
 ·subst hb;rw[a8] at q;simp_all
 ·rw[aK hb] at q
  by_cases hbe:b=e
  ·have q':H b=some (.own x):=by
    simp_all
   rw[q] at q';cases q'
   obtain⟨v,hv⟩:=heo
   exact⟨v,by simp_all⟩
  ·refine(ok b u q).kj (fun c v hc r=>k c v ?_ r) (fun c r=>by rw[aK (nown c b r)];exact r) fun c xs r=>by rw[aK (ntup c xs r)];exact r
   grind
end
structure Un (fs ex:List Addr) (H H':Hp) (h h':Heap):Prop where
 keep:∀b o,h.get? b=some o->H b=none->b∉fs->b∉ex->h'.get? b=some o
 slot:∀b o,h.get? b=some o->H b=none->b∈fs->b∉ex->∃sl,h'.get? b=some { o with slots:=sl }
 free:∀b o,h.get? b=some o->H b=none->b∉ex->H' b=none
 there:∀b o,h.get? b=some o->b∉ex->∃o',h'.get? b=some o'
 jB:∀b xs,H b=some (.tup xs)->H' b=some (.tup xs)
 ky:∀b o u,H b=some (.frz o u)->H' b=some (.frz o u)
 mJ:∀b ps,H b=some (.tbl ps)->∃more,H' b=some (.tbl (ps++more))
section
variable {fs fs' ex ex':List Addr}{H H1 H2:Hp}{h h1 h2 h':Heap}{a x e:Addr}{o:HO}
theorem Un.any (u:Un fs ex H H1 h h1) (q:h.get? b=some ob) (n:H b=none) (hx:b∉ex):∃sl,h1.get? b=some { ob with slots:=sl }:=by
 by_cases hb:b∈fs
 ·exact u.slot b ob q n hb hx
 ·exact⟨ob.slots,u.keep b ob q n hb hx⟩
theorem Un.kept (k:∀b u,h.get? b=some u->h'.get? b=some u):Un fs ex H H h h':=
 ⟨fun b ob q _ _ _=>k b ob q,fun b ob q _ _ _=>⟨ob.slots,k b ob q⟩,fun _ _ _ n _=>n,fun b ob q _=>⟨ob,k b ob q⟩,fun _ _ q=>q,fun _ _ _ q=>q,fun _ ps q=>⟨#[],by grind⟩⟩
theorem Un.refl:Un fs ex H H h h:=Un.kept fun _ _ q=>q
theorem Un.laid (k:∀b u,h.get? b=some u->h'.get? b=some u) (hp:h.objs.size<=a) (hn:H a=none):Un fs ex H (upd H a o) h h' where
 keep:=fun b u q _ _ _=>k b u q
 slot:=fun b u q _ _ _=>⟨u.slots,k b u q⟩
 free:=fun b u q n _=>by rw[aK (LZ (Ma (LI q) hp))];exact n
 there:=fun b u q _=>⟨u,k b u q⟩
 jB:=fun b xs q=>by rw[aK (br q hn)];exact q
 ky:=fun b u xs q=>by rw[aK (br q hn)];exact q
 mJ:=fun b ps q=>⟨#[],by rw[aK (br q hn),q];simp⟩
theorem Un.write (mu:Mut (H x)) (he:e=x\/H e=some (.own x)) (k:∀b u,b≠e->h.get? b=some u->h'.get? b=some u) (heo:∃u,h'.get? e=some u):Un fs ex H (upd H x o) h h':=by
 have hx:∀b,H b=none->b≠x:=fun b n z=>by subst z;rw[n] at mu;exact mu
 have hb:∀b,H b=none->b≠e:=fun b n z=>by
  simp_all
 have hm:∀b u,H b=some u->¬ Mut (some u)->b≠x:=fun b u q nm z=>by simp_all
 refine⟨fun b u q n _ _=>k b u (hb b n) q,fun b u q n _ _=>⟨u.slots,k b u (hb b n) q⟩,fun b u q n _=>by rw[aK (hx b n)];exact n,fun b u q _=>?_,
  fun b xs q=>by rw[aK (hm b _ q fun z=>z)];exact q,fun b u xs q=>by rw[aK (hm b _ q fun z=>z)];exact q,fun b ps q=>⟨#[],by rw[aK (hm b _ q fun z=>z),q];simp⟩⟩
 grind
end
noncomputable def trk (h:Heap) (H:Hp):List Addr:=(LK h.objs.size).filter fun a=>(H a).isSome
noncomputable def oD (h:Heap) (H:Hp):Heap:=PySem.W.hideAll h (trk h H)
theorem yG (h) (H):(oD h H).objs.size=h.objs.size:=PySem.W.hideAll_size _ _
theorem zH (e:h.get? b=some o) (n:H b=none):(oD h H).get? b=some o:=
 PySem.W.hideAll_get _ e fun hm=>by
  have q:(H b).isSome=true:=(Mj.mp hm).2
  simp_all
theorem BI (e:(oD h H).get? b=some o):h.get? b=some o/\H b=none:=by
 have e':h.get? b=some o:=PySem.W.of_hideAll (trk h H) e
 refine⟨e',?_⟩
 cases q:H b with
 | none=>rfl
 | some x=>
  have hm:b∈trk h H:=Mj.mpr ⟨Mt.mpr (LI e'),by simp[q]⟩
  have z:(oD h H).get? b=none:=PySem.W.hideAll_none (trk h H) hm
  simp_all
structure Mod (K:gV) (mg) (base):Prop where
 kin:K.In base
 glob:base.Ns mainGlobals mg
 blt:∃mb,base.Ns builtinsNs mb/\∀x:Str,x≠"__name__" -> mb x=bootBuiltins x
 nolimit:base.NoLimit
structure Cx where
 prog:Mc
 w:MU
 K:gV
 mg:Str->Option LM
 base:Heap
 A:MY
 N:List Str
 au:LP
 av:Hp
 env:Env
 outer:List Env
 stack:List Env
 ex:List Addr
 fn:Str->Bool
 calm:Bool
 pn:List (Addr × Obj)
 xe:LM->LP->Prop
noncomputable def frs (l:List Env):List Addr:=l.filterMap (·.frame)
noncomputable abbrev Cx.fs (X:Cx):List Addr:=frs X.outer
noncomputable def Vis (sc:Pg) (x:Str):Prop:=sc.names.lookup x=some .local\/sc.names.lookup x=some .cell\/sc.names.lookup x=some .free
noncomputable def Loc (sc:Pg) (x:Str):Prop:=sc.names.lookup x=some .local\/sc.names.lookup x=some .cell
noncomputable def Look (env:Env) (h:Heap) (m:Str->Option LM) (x:Str) (u:LM):Prop:=
 (env.kindOf x=some .local/\m x=some u)\/((env.kindOf x=some .cell\/env.kindOf x=some .free)/\∃c,env.cells.lookup x=some c/\h.IsCell c (some u))
structure Cx.Ok (X:Cx):Prop where
 mod:Mod X.K X.mg X.base
 kind:X.env.scope.kind=.function
 glob:X.env.globals=mainGlobals
 blt:X.env.builtins=builtinsNs
 above:X.au.heap.objs.size<=X.env.locals
 inj:∀x y c,X.env.cells.lookup x=some c->X.env.cells.lookup y=some c->x=y
 has:∀x,(X.env.kindOf x=some .cell\/X.env.kindOf x=some .free)->∃c,X.env.cells.lookup x=some c
 cab:∀x c,X.fn x=true->X.env.cells.lookup x=some c->X.au.heap.objs.size<=c
 hd:X.calm=true->X.A.handled=none
 frames:X.A.frames=some X.stack
 stk:X.stack=X.outer\/(X.stack=X.env::X.outer/\X.env.frame=some X.env.locals)
 exf:∀b∈X.ex,b≠X.env.locals/\∀x c,X.env.cells.lookup x=some c->c≠b
 bs:∀b o,X.base.get? b=some o->X.au.heap.get? b=some o/\X.av b=none
 bsz:X.base.objs.size<=X.au.heap.objs.size
 vo:∀b o,X.base.get? b=some o->b∉X.ex
 Cd:∀b∈X.ex,b∉X.fs
 lh:X.au.heap.FunFrames X.base X.outer
 frf:∀b∈X.fs,X.av b=none
structure Inv (X:Cx) (pins) (σ:List (Option V)) (H) (s:LP):Prop where
 ok:X.Ok
 os:s.os=X.au.os
 bare:Qh s.gens
 base:Un X.fs X.ex X.av H X.au.heap s.heap
 loc:∃m,s.heap.Ns X.env.locals m/\∀(i:Nat) x v , X.N[i]?=some x->σ[i]?=some (some v)->Vis X.env.scope x->∃u,RelV v u/\Look X.env s.heap m x u
 cell:∀x c,X.env.cells.lookup x=some c->∃v,s.heap.IsCell c v
 free:H X.env.locals=none
 gf:∀x c,X.env.cells.lookup x=some c->H c=none
 pin:∀p∈X.pn++pins,s.heap.get? p.1=some p.2/\H p.1=none/\p.1≠X.env.locals/\p.1∉X.fs/\∀v,p.2.data≠.cell v
 hok:HOk X.prog X.w H s.heap
 len:σ.length=X.N.length
section
variable {X:Cx}{pins:List (Addr × Obj)}{σ:List (Option V)}{H H':Hp}{s:LP}{h':Heap}
theorem Cx.Ok.JQ (ok:X.Ok) (e:X.base.get? b=some o):b∉X.fs:=fun hb=>by
 have:=(ok.lh.mem hb).1
 simp_all
theorem Inv.bs (I:Inv X pins σ H s):∀b o,X.base.get? b=some o->s.heap.get? b=some o/\H b=none:=fun b o e=>
 ⟨I.base.keep b o (I.ok.bs b o e).1 (I.ok.bs b o e).2 (I.ok.JQ e) (I.ok.vo b o e),I.base.free b o (I.ok.bs b o e).1 (I.ok.bs b o e).2 (I.ok.vo b o e)⟩
theorem Inv.bk (I:Inv X pins σ H s):∀b o,X.base.get? b=some o->s.heap.get? b=some o:=fun b o e=>(I.bs b o e).1
theorem Inv.mod (I:Inv X pins σ H s):Mod X.K X.mg X.base:=I.ok.mod
theorem Inv.kIn (I:Inv X pins σ H s):X.K.In s.heap:=I.ok.mod.kin.keeps I.bk
theorem Inv.lt (I:Inv X pins σ H s):X.env.locals<s.heap.objs.size:=let ⟨_,hn,_⟩:=I.loc;hn.lt
theorem Inv.sz (I:Inv X pins σ H s):X.au.heap.objs.size<=s.heap.objs.size:=L0 I.ok.above (Qi I.lt)
theorem Inv.Cb (I:Inv X pins σ H s){a:Addr} (h:s.heap.objs.size<=a):a∉X.fs:=fun hb=>by
 obtain⟨_,o,ho,_⟩:=I.ok.lh.mem hb
 exact absurd (Ma (LI ho) (L0 I.sz h)) (MN _)
theorem Inv.cne (I:Inv X pins σ H s):∀x c,X.env.cells.lookup x=some c->c≠X.env.locals:=fun x c e z=>by
 obtain⟨v,o,ho,hd⟩:=I.cell x c e
 obtain⟨m,⟨o',es,ep,ho',hd',_⟩,_⟩:=I.loc
 simp_all
theorem Inv.lh (I:Inv X pins σ H s):s.heap.FunFrames X.base X.outer:=by
 have all:∀(l:List Env),(∀b∈frs l,b∈X.fs)->X.au.heap.FunFrames X.base l->s.heap.FunFrames X.base l:=by
  intro l
  induction l with
  | nil=>intro _ _;trivial
  | cons env r ih=>
   intro hs hl
   obtain⟨hk,⟨L,o,hf,hn,ho,hd⟩,hr⟩:=hl
   have hL:L∈X.fs:=hs L (by unfold frs;simp_all)
   obtain⟨sl,e⟩:=I.base.slot L o ho (I.ok.frf L hL) hL fun z=>I.ok.Cd L z hL
   exact⟨hk,⟨L,_,hf,hn,e,hd⟩,ih (fun b hb=>hs b (by unfold frs;rw[List.filterMap_cons,hf];exact td _ hb)) hr⟩
 exact all X.outer (fun _ hb=>hb) I.ok.lh
theorem Inv.stack (I:Inv X pins σ H s):s.heap.FunFrames X.base X.stack:=by
 rcases I.ok.stk with e | ⟨e,hf⟩
 ·rw[e];exact I.lh
 ·rw[e]
  obtain⟨m,hn,_⟩:=I.loc
  refine .cons (by rw[I.ok.kind];decide) hf hn ?_ I.lh
  exact Heap.get?_none_of_le (L0 I.ok.bsz I.ok.above)
theorem Inv.iF (I:Inv X pins σ H s):∀b∈frs X.stack,b∈X.env.locals::X.fs:=fun b hb=>by
 rcases I.ok.stk with e | ⟨e,hf⟩
 ·simp_all
 ·rw[e] at hb
  unfold frs at hb
  rw[List.filterMap_cons,hf] at hb
  exact hb
theorem Inv.lS (I:Inv X pins σ H s):∀b∈frs X.stack,H b=none:=fun b hb=>by
 rcases LR.mp (I.iF b hb) with e | hb
 ·rw[e];exact I.free
 ·obtain⟨_,o,ho,_⟩:=I.ok.lh.mem hb
  exact I.base.free b o ho (I.ok.frf b hb) fun z=>I.ok.Cd b z hb
theorem Inv.step {g':Array GenState}{t':Nat}{d':Drawn}{ch:List Addr} (I:Inv X pins σ H s)
  (hch:∀b∈ch,(b∈X.ex\/X.au.heap.objs.size<=b)/\b≠X.env.locals/\(∀x c,X.env.cells.lookup x=some c->c≠b)/\∀p∈X.pn++pins,p.1≠b)
  (keep:∀b o,b≠X.env.locals->b∉X.fs->b∉ch->s.heap.get? b=some o->H b=none->h'.get? b=some o)
  (slot:∀b o,b≠X.env.locals->b∈X.fs->b∉ch->s.heap.get? b=some o->H b=none->∃sl,h'.get? b=some { o with slots:=sl }) (free:∀b o,b∉ch->s.heap.get? b=some o->H b=none->H' b=none)
  (there:∀b o,b∉ch->s.heap.get? b=some o->∃o',h'.get? b=some o')
  (jB:∀b xs,H b=some (.tup xs)->H' b=some (.tup xs)) (ky:∀b o u,H b=some (.frz o u)->H' b=some (.frz o u)) (mJ:∀b ps,H b=some (.tbl ps)->∃more,H' b=some (.tbl (ps++more)))
  (ns:∀m,s.heap.Ns X.env.locals m->h'.Ns X.env.locals m) (hok:HOk X.prog X.w H' h') (hg:Qh g') :
  Inv X pins σ H' { s with heap:=h',gens:=g',drawn:=d',toks:=t' }:=by
 have neL:∀b o,X.au.heap.get? b=some o->b≠X.env.locals:=fun b o e=>LZ (Ma (LI e) I.ok.above)
 have neC:∀b o,X.au.heap.get? b=some o->b∉X.ex->b∉ch:=fun b o e hx hb=>by
  rcases(hch b hb).1 with z | z
  ·grind
  ·exact absurd (Ma (LI e) z) (MN _)
 have cellK:∀x c,X.env.cells.lookup x=some c->∀v,s.heap.IsCell c v->h'.IsCell c v:=fun x c e v ⟨o,ho,hd⟩=>by
  have nch:c∉ch:=fun z=>(hch c z).2.2.1 x c e rfl
  by_cases hc:c∈X.fs
  ·obtain⟨sl,q⟩:=slot c o (I.cne x c e) hc nch ho (I.gf x c e)
   exact⟨_,q,hd⟩
  ·exact⟨o,keep c o (I.cne x c e) hc nch ho (I.gf x c e),hd⟩
 refine⟨I.ok,I.os,hg,⟨fun b o e n hb hx=>?_,fun b o e n hb hx=>?_,fun b o e n hx=>?_,fun b o e hx=>?_,fun b xs e=>jB b xs (I.base.jB b xs e),fun b o xs e=>ky b o xs (I.base.ky b o xs e),fun b ps e=>?_⟩,?_,fun x c e=>?_,?_,fun x c e=>?_,fun p hp=>?_,hok,I.len⟩
 ·exact keep b o (neL b o e) hb (neC b o e hx) (I.base.keep b o e n hb hx) (I.base.free b o e n hx)
 ·obtain⟨sl,e1⟩:=I.base.slot b o e n hb hx
  obtain⟨sl',e2⟩:=slot b _ (neL b o e) hb (neC b o e hx) e1 (I.base.free b o e n hx)
  simp_all
 ·obtain⟨o',e1⟩:=I.base.there b o e hx
  exact free b o' (neC b o e hx) e1 (I.base.free b o e n hx)
 ·obtain⟨o',e1⟩:=I.base.there b o e hx
  exact there b o' (neC b o e hx) e1
 ·obtain⟨m1,e1⟩:=I.base.mJ b ps e
  grind
 ·obtain⟨m,hn,hl⟩:=I.loc
  refine⟨m,ns m hn,fun i x v e1 e2 e3=>?_⟩
  obtain⟨u,r,l⟩:=hl i x v e1 e2 e3
  refine⟨u,r,?_⟩
  rcases l with l | ⟨k,c,e,z⟩
  ·exact .inl l
  ·exact .inr ⟨k,c,e,cellK x c e _ z⟩
 ·obtain⟨v,z⟩:=I.cell x c e
  grind
 ·obtain⟨m,⟨o,_,_,ho,_⟩,_⟩:=I.loc
  exact free _ o (fun z=>(hch _ z).2.1 rfl) ho I.free
 ·obtain⟨v,o,ho,hd⟩:=I.cell x c e
  exact free c o (fun z=>(hch c z).2.2.1 x c e rfl) ho (I.gf x c e)
 ·obtain⟨e,n,ne,nf,d⟩:=I.pin p hp
  grind
theorem Inv.un {t':Nat} (I:Inv X pins σ H s) (u:Un X.fs [] H H' s.heap h') (hok:HOk X.prog X.w H' h'):Inv X pins σ H' { s with heap:=h',toks:=t' }:=by
 obtain⟨m,⟨o,es,ep,ho,r⟩,_⟩:=id I.loc
 obtain⟨sl,hL⟩:=u.any ho I.free (by simp)
 exact I.step (g':=s.gens) (d':=s.drawn) (ch:=[]) (fun _ z=>nomatch z) (fun b o _ hb _ e n=>u.keep b o e n hb (by simp)) (fun b o _ hb _ e n=>u.slot b o e n hb (by simp)) (fun b o _ e n=>u.free b o e n (by simp)) (fun b o _ e=>u.there b o e (by simp)) u.jB u.ky u.mJ (fun m' hm=>by
  obtain⟨o',es',ep',ho',r'⟩:=hm
  rw[ho] at ho';cases ho'
  exact⟨_,es',ep',hL,r'⟩) hok I.bare
theorem Inv.call (I:Inv X pins σ H s) (u:Un (frs X.stack) ch H H' s.heap h') (hok:HOk X.prog X.w H' h') (hg:Qh g')
  (hch:∀b∈ch,(b∈X.ex\/X.au.heap.objs.size<=b)/\b≠X.env.locals/\(∀x c,X.env.cells.lookup x=some c->c≠b)/\∀p∈X.pn++pins,p.1≠b) :
  Inv X pins σ H' { s with heap:=h',gens:=g',drawn:=d',toks:=t' }:=by
 obtain⟨m,⟨o,es,ep,ho,r⟩,_⟩:=id I.loc
 obtain⟨sl,hL⟩:=u.any ho I.free fun z=>(hch _ z).2.1 rfl
 exact I.step (ch:=ch) hch (fun b o hL hb hc e n=>u.keep b o e n (fun z=>(LR.mp (I.iF b z)).elim hL hb) hc) (fun b o _ _ hc e n=>u.any e n hc) (fun b o hc e n=>u.free b o e n hc) (fun b o hc e=>u.there b o e hc) u.jB u.ky u.mJ (fun m' hm=>by
  obtain⟨o',es',ep',ho',r'⟩:=hm
  rw[ho] at ho';cases ho'
  exact⟨_,es',ep',hL,r'⟩) hok hg
theorem Inv.turned (I:Inv X pins σ H s) (k:∀b o,b≠it->s.heap.get? b=some o->h'.get? b=some o) (hn:H it=none) (hL:it≠X.env.locals)
  (h1:it∈X.ex\/X.au.heap.objs.size<=it) (h2:∀x c,X.env.cells.lookup x=some c->c≠it) (h3:∀p∈X.pn++pins,p.1≠it):Inv X pins σ H { s with heap:=h',toks:=t' }:=by
 have nit:∀b u,H b=some u->b≠it:=fun b u e z=>by simp_all
 refine I.step (g':=s.gens) (d':=s.drawn) (ch:=[it]) (fun b hb=>?_) (fun b o _ _ hc e _=>k b o (fun z=>hc (by simp[z])) e) (fun b o _ _ hc e _=>⟨o.slots,k b o (fun z=>hc (by simp[z])) e⟩) (fun _ _ _ _ n=>n)
  (fun b o hc e=>⟨o,k b o (fun z=>hc (by simp[z])) e⟩) (fun _ _ e=>e) (fun _ _ _ e=>e) (fun b ps e=>⟨#[],by grind⟩) (fun m hm=>?_) (fun b u e=>?_) I.bare
 ·grind
 ·obtain⟨o,es,ep,ho,r⟩:=hm
  exact⟨o,es,ep,k _ o (Q0 hL) ho,r⟩
 ·refine(I.hok b u e).kj (fun c v hc q=>k c v ?_ q) (fun _ q=>q) fun _ _ q=>q
  grind
theorem Inv.tok (I:Inv X pins σ H s) (t):Inv X pins σ H { s with toks:=t }:=I.un (h':=s.heap) (t':=t) Un.refl I.hok
theorem Inv.kept (I:Inv X pins σ H s) (k:∀b u,s.heap.get? b=some u->h'.get? b=some u):Inv X pins σ H { s with heap:=h',toks:=t' }:=I.un (Un.kept k) (I.hok.kept k)
theorem Inv.laid {a:Addr} (I:Inv X pins σ H s) (k:∀b u,s.heap.get? b=some u->h'.get? b=some u) (hp:s.heap.objs.size<=a) (new:cL X.prog X.w (upd H a o) h' a o) :
  Inv X pins σ (upd H a o) { s with heap:=h',toks:=t' }:=I.un (Un.laid k hp (I.hok.fresh hp)) (I.hok.laid k hp new)
theorem Inv.write (I:Inv X pins σ H s) (mu:Mut (H x)) (he:e=x\/H e=some (.own x)) (k:∀b u,b≠e->s.heap.get? b=some u->h'.get? b=some u) (heo:∃u,h'.get? e=some u)
  (new:cL X.prog X.w (upd H x o) h' x o):Inv X pins σ (upd H x o) { s with heap:=h',toks:=t' }:=I.un (Un.write mu he k heo) (I.hok.write mu he k heo new)
theorem Inv.iS (I:Inv X pins σ H s) (h:∀p∈pins',s.heap.get? p.1=some p.2/\H p.1=none/\p.1≠X.env.locals/\p.1∉X.fs/\∀v,p.2.data≠.cell v):Inv X pins' σ H s:=
 ⟨I.ok,I.os,I.bare,I.base,I.loc,I.cell,I.free,I.gf,fun p hp=>(Ml.mp hp).elim (fun z=>I.pin p (OG _ z)) (h p),I.hok,I.len⟩
theorem tJ {N:List Str} (hN:N.Nodup){i j:Nat} (a:N[i]?=some x) (b:N[j]?=some x):i=j:=by
 obtain⟨h1,e1⟩:=Mu.mp a
 obtain⟨h2,e2⟩:=Mu.mp b
 exact(List.getElem_inj hN).mp (e1.trans e2.symm)
theorem yO (I:Inv X pins σ H s) (hN:X.N.Nodup) (hi:X.N[i]?=some x) (hx:Loc X.env.scope x) (r:RelV v u)
  (h:∀s',Inv X pins (σ.set i (some v)) H s'->(∃a,Ph a s.heap s'.heap/\(a=X.env.locals\/X.env.cells.lookup x=some a))->Q () s') (hf:X.fn x=true\/X.env.scope.names.lookup x=some .local:=by first | exact .inl rfl | exact .inr rfl | assumption):wpAny M A (storeName X.env x u) Q E s:=by
 obtain⟨m,hn,hl⟩:=id I.loc
 have hcls:(X.env.scope.kind == .class || (X.env.scope.kind == .module&&X.env.locals != X.env.globals))=false:=by rw[I.ok.kind];rfl
 have hiσ:i<σ.length:=by rw[I.len];grind
 have cne:=I.cne
 have tracked:∀{a:Addr} {h':Heap},(∃o,s.heap.get? a=some o/\H a=none)->Ph a s.heap h'->HOk X.prog X.w H h':=fun{a h'} ha hs b ob e=>by
  obtain⟨_,_,hfree⟩:=ha
  refine(I.hok b ob e).kj (fun c w' hc q=>(hs.2 c ?_).trans q) (fun _ q=>q) fun _ _ q=>q
  grind
 rcases hx with hk | hk
 ·refine wpAny_storeName_local hk hn (fun h' hn' hs=>?_) hcls
  obtain⟨oL,_,_,hoL,_⟩:=id hn
  refine h _ ⟨I.ok,I.os,I.bare,⟨fun b o e n hb hx=>?_,fun b o e n hb hx=>?_,I.base.free,fun b o e hx=>?_,I.base.jB,I.base.ky,I.base.mJ⟩,⟨_,hn',fun j y v' e1 e2 e3=>?_⟩,fun y c e=>?_,I.free,I.gf,fun p hp=>?_,tracked ⟨oL,hoL,I.free⟩ hs,by simpa using I.len⟩ ⟨_,hs,.inl rfl⟩
  ·exact(hs.2 b (LZ (Ma (LI e) I.ok.above))).trans (I.base.keep b o e n hb hx)
  ·obtain⟨sl,e1⟩:=I.base.slot b o e n hb hx
   exact⟨sl,(hs.2 b (LZ (Ma (LI e) I.ok.above))).trans e1⟩
  ·obtain⟨o',e1⟩:=I.base.there b o e hx
   exact⟨o',(hs.2 b (LZ (Ma (LI e) I.ok.above))).trans e1⟩
  ·by_cases hj:j=i
   ·subst hj
    rw[hi] at e1;cases e1
    rw[O1 hiσ] at e2
    cases e2
    exact⟨u,r,.inl ⟨hk,by simp⟩⟩
   ·rw[List.getElem?_set_ne (Q0 hj)] at e2
    obtain⟨u',r',q⟩:=hl j y v' e1 e2 e3
    refine⟨u',r',?_⟩
    rcases q with⟨k,e⟩ | ⟨k,c,e,z⟩
    ·refine .inl ⟨k,?_⟩
     have:y≠x:=fun e=>hj (tJ hN e1 (e ▸ hi))
     simp_all
    ·exact .inr ⟨k,c,e,z.sameBut hs (cne y c e)⟩
  ·obtain⟨w',z⟩:=I.cell y c e
   exact⟨w',z.sameBut hs (cne y c e)⟩
  ·obtain⟨e,n,ne,nf,d⟩:=I.pin p hp
   exact⟨(hs.2 p.1 ne).trans e,n,ne,nf,d⟩
 ·have hfn:X.fn x=true:=by
   simp_all
  obtain⟨c,hc⟩:=I.ok.has x (.inl hk)
  obtain⟨w',z⟩:=I.cell x c hc
  refine wpAny_storeName_cell I.ok.kind hk hc z (fun h' hc' hs=>?_)
  obtain⟨oc,hoc,hocd⟩:=id z
  refine h { s with heap:=h' } ⟨I.ok,I.os,I.bare,⟨fun b o e n hb hx=>?_,fun b o e n hb hx=>?_,I.base.free,fun b o e hx=>?_,I.base.jB,I.base.ky,I.base.mJ⟩,⟨m,hn.sameBut hs (Q0 (cne x c hc)),fun j y v' e1 e2 e3=>?_⟩,fun y c' e=>?_,I.free,I.gf,fun p hp=>?_,tracked ⟨oc,hoc,I.gf x c hc⟩ hs,by simpa using I.len⟩ ⟨c,hs,.inr hc⟩
  ·exact(hs.2 b (LZ (Ma (LI e) (I.ok.cab x c hfn hc)))).trans (I.base.keep b o e n hb hx)
  ·obtain⟨sl,e1⟩:=I.base.slot b o e n hb hx
   exact⟨sl,(hs.2 b (LZ (Ma (LI e) (I.ok.cab x c hfn hc)))).trans e1⟩
  ·obtain⟨o',e1⟩:=I.base.there b o e hx
   exact⟨o',(hs.2 b (LZ (Ma (LI e) (I.ok.cab x c hfn hc)))).trans e1⟩
  ·by_cases hj:j=i
   ·subst hj
    rw[hi] at e1;cases e1
    rw[O1 hiσ] at e2
    cases e2
    exact⟨u,r,.inr ⟨.inl hk,c,hc,hc'⟩⟩
   ·rw[List.getElem?_set_ne (Q0 hj)] at e2
    obtain⟨u',r',q⟩:=hl j y v' e1 e2 e3
    refine⟨u',r',?_⟩
    rcases q with q | ⟨k,c',e,z'⟩
    ·exact .inl q
    ·refine .inr ⟨k,c',e,z'.sameBut hs ?_⟩
     rintro rfl
     exact hj (tJ hN e1 (I.ok.inj _ _ _ e hc ▸ hi))
  ·by_cases hcc:c'=c
   ·grind
   ·obtain⟨w2,z2⟩:=I.cell y c' e
    exact⟨w2,z2.sameBut hs hcc⟩
  ·obtain⟨e,n,ne,nf,d⟩:=I.pin p hp
   refine⟨(hs.2 p.1 ?_).trans e,n,ne,nf,d⟩
   grind
theorem iM (I:Inv X pins σ H s) (hN:X.N.Nodup) (hi:X.N[i]?=some x) (hx:Loc X.env.scope x) (r:RelV v u)
  (h:∀s',Inv X pins (σ.set i (some v)) H s'->Q () s') (hf:X.fn x=true\/X.env.scope.names.lookup x=some .local:=by first | exact .inl rfl | exact .inr rfl | assumption):wpAny M A (storeName X.env x u) Q E s:=
 yO I hN hi hx r (fun s' I' _=>h s' I') hf
theorem Inv.oQ (I:Inv X pins σ H s) (ho:s'.os=s.os) (u:Un (frs X.stack) ch H H' s.heap s'.heap) (hok:HOk X.prog X.w H' s'.heap) (hg:Qh s'.gens)
  (hch:∀b∈ch,(b∈X.ex\/X.au.heap.objs.size<=b)/\b≠X.env.locals/\(∀x c,X.env.cells.lookup x=some c->c≠b)/\∀p∈X.pn++pins,p.1≠b):Inv X pins σ H' s':=by
 obtain⟨h',g',d',t',o'⟩:=s'
 have e:o'=s.os:=ho
 subst e
 exact I.call (g':=g') (t':=t') (d':=d') u hok hg hch
end
noncomputable abbrev XK:=LM->Option Addr->Hp->Prop
noncomputable abbrev St:=List (Option V)
noncomputable abbrev VK:=V->Hp->Prop
noncomputable abbrev TE:=St->Hp->VK->Prop
noncomputable abbrev TT:=St->Hp->(Bool->Hp->Prop)->Prop
noncomputable abbrev TA:=St->Hp->(List V->Hp->Prop)->Prop
structure Ends where
 nx:St->Hp->Prop
 rt:VK
 bk:St->Hp->Prop:=fun _ _=>False
 ct:St->Hp->Prop:=fun _ _=>False
noncomputable abbrev TS:=Ends->St->Hp->Prop
noncomputable def EP (X:Cx) (pins:List (Addr × Obj)) (σ:St) (Q:VK) (u:LM) (s':LP):Prop:=∃v H',Inv X pins σ H' s'/\RelV v u/\Q v H'
noncomputable def TP (X:Cx) (pins:List (Addr × Obj)) (σ:St) (Q:Bool->Hp->Prop) (b:Bool) (s':LP):Prop:=∃H',Inv X pins σ H' s'/\Q b H'
noncomputable def AP (X:Cx) (pins:List (Addr × Obj)) (σ:St) (Q:List V->Hp->Prop) (us:List LM) (s':LP):Prop:=∃vs H',Inv X pins σ H' s'/\Vals vs us/\Q vs H'
noncomputable def SP (X:Cx) (pins:List (Addr × Obj)) (D:Ends) (f:Flow) (s':LP):Prop:=
 match f with
 | .next=>∃σ' H',Inv X pins σ' H' s'/\D.nx σ' H'
 | .brk=>∃σ' H',Inv X pins σ' H' s'/\D.bk σ' H'
 | .cont=>∃σ' H',Inv X pins σ' H' s'/\D.ct σ' H'
 | .ret u=>∃v σ' H',Inv X pins σ' H' s'/\RelV v u/\D.rt v H'
noncomputable def PE (X:Cx) (e:Expr) (t:TE):Prop:=
 ∀pins s (σ:St) H Q , Inv X pins σ H s->t σ H Q->wpAny (model X.prog X.w) X.A (eval e X.env) (EP X pins σ Q) X.xe s
noncomputable def PT (X:Cx) (e:Expr) (t:TT):Prop:=
 ∀pins s (σ:St) H Q , Inv X pins σ H s->t σ H Q->wpAny (model X.prog X.w) X.A (isTrue e X.env (eval e X.env)) (TP X pins σ Q) X.xe s
noncomputable def PW (X:Cx) (e:Expr) (t:TT):Prop:=
 ∀whole pins s (σ:St) H Q , Inv X pins σ H s->t σ H Q->wpAny (model X.prog X.w) X.A (isTrue e X.env whole) (TP X pins σ Q) X.xe s
theorem PW.pt (h:PW X e t):PT X e t:=h _
noncomputable def PA (X:Cx) (es:List Expr) (t:TA):Prop:=
 ∀pos pins s (σ:St) H Q , Inv X pins σ H s->t σ H Q->wpAny (model X.prog X.w) X.A (spliced (backTo pos (starEach es X.env))) (AP X pins σ Q) X.xe s
noncomputable def PS (X:Cx) (st:Stmt) (t:TS):Prop:=
 ∀pins s (σ:St) H D , Inv X pins σ H s->t D σ H->wpAny (model X.prog X.w) X.A (exec st X.env) (SP X pins D) X.xe s
noncomputable def PSs (X:Cx) (st:List Stmt) (t:TS):Prop:=
 ∀pins s (σ:St) H D , Inv X pins σ H s->t D σ H->wpAny (model X.prog X.w) X.A (execs st X.env) (SP X pins D) X.xe s
theorem thn {M:Model}{A:MY}{E:LM->LP->Prop}{s:LP} (h:wpAny M A t Q E s) (hQ:∀a s,Q a s->Q' a s):wpAny M A t Q' E s:=Nw h hQ fun _ _ x=>x
section
variable {X:Cx}
noncomputable def KS (i:Nat):TE:=fun σ H Q=>∃v,σ[i]?=some (some v)/\Q v H
noncomputable def tC (v:V):TE:=fun _ H Q=>Q v H
theorem FF {pos:Pos} (hN:X.N[i]?=some x) (hv:Vis X.env.scope x) (hd:(x == ("__debug__" : Str))=false:=by decide) (hcd:(x == ("__classdict__" : Str))=false:=by decide):PE X (.Name x pos) (KS i):=by
 intro pins s σ H Q I h
 obtain⟨v,e,h⟩:=h
 obtain⟨m,hn,hl⟩:=I.loc
 obtain⟨u,r,l⟩:=hl i x v hN e hv
 have fin:EP X pins σ Q u s:=⟨v,H,I,r,h⟩
 rcases l with⟨hk,hm⟩ | ⟨hk,c,hc,hcell⟩
 ·exact Qp (Pq I.ok.kind hk hn hm fin) hd
 ·rcases hk with hk | hk
  ·exact Qp (wpAny_loadName_cell I.ok.kind hk hc hcell fin) hd
  ·exact Qp (wpAny_loadName_free I.ok.kind hk hc hcell fin hcd) hd
theorem Gj:PE X (.Constant (.int i) j pos) (tC (.int i)):=fun _ _ _ H _ I h=>wpAny_Constant_int ⟨.int i,H,I.tok _,⟨_,rfl⟩,h⟩
theorem G2:PE X (.Constant (.bool b) j pos) (tC (.bl b)):=fun _ _ _ H _ I h=>Constant_bool ⟨.bl b,H,I,rfl,h⟩
noncomputable def Gl (X:Cx) (x:Str):Prop:=X.env.kindOf x=some .globalImplicit
theorem xX {σ:St} (I:Inv X pins σ H s) (hg:Gl X x) (hm:X.mg x=some u) (h:Q u s)
  (hd:(x == ("__debug__" : Str))=false:=by decide):wpAny (model X.prog X.w) X.A (eval (.Name x pos) X.env) Q E s:=
 OF I.ok.kind hg (Calls.loadGlobal_global (by rw[I.ok.glob];exact I.mod.glob.keeps I.bk) hm h) hd
theorem jh {E:LM->LP->Prop}{σ:St}{pos:Pos} (I:Inv X pins σ H s) (hg:Gl X x) (hm:X.mg x=none) (hv:bootBuiltins x=some u) (h:Q u s)
  (hn:x≠"__name__" := by decide) (hd:(x == ("__debug__" : Str))=false:=by decide):wpAny (model X.prog X.w) X.A (eval (.Name x pos) X.env) Q E s:=by
 obtain⟨mb,h1,h2⟩:=I.mod.blt
 exact OF I.ok.kind hg (Calls.loadGlobal_builtin (by rw[I.ok.glob];exact I.mod.glob.keeps I.bk) hm (by rw[I.ok.blt];exact h1.keeps I.bk) ((h2 x hn).trans hv) h) hd
theorem CK (hg:Gl X x) (hm:X.mg x=some u) (r:RelV v u) (hd:(x == ("__debug__" : Str))=false:=by decide):PE X (.Name x pos) (tC v):=
 fun _ _ _ H _ I h=>xX I hg hm ⟨v,H,I,r,h⟩ hd
theorem Dk {pos:Pos} (hg:Gl X x) (hm:X.mg x=none) (hv:bootBuiltins x=some u) (r:RelV v u) (hn:x≠"__name__" := by decide) (hd:(x == ("__debug__" : Str))=false:=by decide):PE X (.Name x pos) (tC v):=
 fun _ _ _ H _ I h=>jh I hg hm hv ⟨v,H,I,r,h⟩ hn hd
variable {a b:Expr}{ta tb:TE}{pos:Pos}
variable {tA tB':TT}{rest:List Expr}
noncomputable def KD (t u:TT):TT:=fun σ H Q=>t σ H fun c H1=>if c=true then u σ H1 Q else Q false H1
noncomputable def tOr (t u:TT):TT:=fun σ H Q=>t σ H fun c H1=>if c=true then Q true H1 else u σ H1 Q
noncomputable def J1 (t:TT):TT:=fun σ H Q=>t σ H fun c H1=>Q (!c) H1
theorem pw_and1 (ha:PT X a tA):PW X (.BoolOp .And [a] pos) tA:=by
 intro wh pins s σ H Q I h
 refine isTrue_and (thn (ha pins s σ H Q I h) fun c s1 e=>?_)
 cases c with
 | true=>exact isTrue_and_nil e
 | false=>exact e
theorem pw_or1 (ha:PT X a tA):PW X (.BoolOp .Or [a] pos) tA:=by
 intro wh pins s σ H Q I h
 refine isTrue_or (thn (ha pins s σ H Q I h) fun c s1 e=>?_)
 cases c with
 | false=>exact isTrue_or_nil e
 | true=>exact e
theorem pw_and (ha:PT X a tA) (hb:PW X (.BoolOp .And (b::rest) pos) tB'):PW X (.BoolOp .And (a::b::rest) pos) (KD tA tB'):=by
 intro wh pins s σ H Q I h
 refine isTrue_and (thn (ha pins s σ H _ I h) fun c s1 ⟨H1,I1,q1⟩=>?_)
 cases c with
 | true=>exact hb wh pins s1 σ H1 Q I1 q1
 | false=>assumption
theorem pw_or (ha:PT X a tA) (hb:PW X (.BoolOp .Or (b::rest) pos) tB'):PW X (.BoolOp .Or (a::b::rest) pos) (tOr tA tB'):=by
 intro wh pins s σ H Q I h
 refine isTrue_or (thn (ha pins s σ H _ I h) fun c s1 ⟨H1,I1,q1⟩=>?_)
 cases c with
 | true=>assumption
 | false=>exact hb wh pins s1 σ H1 Q I1 q1
theorem Es (ha:PT X a tA):PT X (.UnaryOp .Not a pos) (J1 tA):=by
 intro pins s σ H Q I h
 exact isTrue_not (ha pins s σ H (fun c H1=>Q (!c) H1) I h)
noncomputable def IH (ta tb:TE):TE:=fun σ H Q=>ta σ H fun x H1=>∃c,x=.bl c/\if c=true then tb σ H1 Q else Q (.bl false) H1
noncomputable def IA (ta:TE):TE:=fun σ H Q=>ta σ H fun x H1=>∃c,x=.bl c/\Q (.bl (!c)) H1
theorem FT (h:PE X a t):PE X (.BoolOp op [a] pos) t:=fun pins s σ H Q I hw=>BoolOp_one (h pins s σ H Q I hw)
theorem Gk (ha:PE X a ta) (hb:PE X (.BoolOp .And (b::rest) pos) tb):PE X (.BoolOp .And (a::b::rest) pos) (IH ta tb):=by
 intro pins s σ H Q I h
 refine BoolOp_and (thn (ha pins s σ H _ I h) fun v s1 ⟨x,H1,I1,r1,q1⟩=>?_)
 obtain⟨c,rfl,q1⟩:=q1
 cases r1
 refine NB ?_
 cases c with
 | true=>exact hb pins s1 σ H1 Q I1 q1
 | false=>exact⟨.bl false,H1,I1,rfl,q1⟩
theorem F0 (ha:PE X a ta):PE X (.UnaryOp .Not a pos) (IA ta):=by
 intro pins s σ H Q I h
 refine UnaryOp_ (thn (ha pins s σ H _ I h) fun v s1 ⟨x,H1,I1,r1,q1⟩=>?_)
 obtain⟨c,rfl,q1⟩:=q1
 cases r1
 exact not_of (NB ⟨.bl (!c),H1,I1,rfl,q1⟩)
noncomputable def tIf (t:TT) (ta tb:TE):TE:=fun σ H Q=>t σ H fun c H1=>if c=true then ta σ H1 Q else tb σ H1 Q
theorem Bc {c:Expr} (hc:PT X c tA) (ha:PE X a ta) (hb:PE X b tb):PE X (.IfExp c a b pos) (tIf tA ta tb):=by
 intro pins s σ H Q I h
 refine wpAny_IfExp (thn (hc pins s σ H _ I h) fun d s1 ⟨H1,I1,q1⟩=>?_)
 cases d with
 | true=>exact ha pins s1 σ H1 Q I1 q1
 | false=>exact hb pins s1 σ H1 Q I1 q1
end
noncomputable def SqL (K:gV) (H:Hp) (a:Addr) (xs:List V):Prop:=
 Rd H a (.lst xs) ∨
  ∃o its n,K.lookup a=some o/\o.cls=.type "list" /\ o.dict=none/\o.data=.seq its n/\its.size<=sizeLine/\Vals xs its.toList
noncomputable def SqT (K:gV) (H:Hp) (a:Addr) (xs:List V):Prop:=
 Rd H a (.tup xs) ∨
  ∃o its n,K.lookup a=some o/\o.cls=.type "tuple" /\ o.data=.seq its n/\its.size<=sizeLine/\Vals xs its.toList
noncomputable def Kc:LM->Option V
 | .none=>some .non
 | .bool b=>some (.bl b)
 | .int i _=>some (.int i)
 | .str x _=>some (.str x)
 | .bytes b _=>some (.byt b)
 | .float b _=>some (.flt b)
 | .ref a=>some (.ref a)
 | .type n=>some (.ty n)
 | _=>none
theorem RelV.abs (r:RelV x u):Kc u=some x:=by
 cases x with
 | non=>cases r;rfl
 | bl _=>cases r;rfl
 | int _=>obtain⟨t,rfl⟩:=r;rfl
 | str _=>obtain⟨t,rfl⟩:=r;rfl
 | byt _=>obtain⟨t,rfl⟩:=r;rfl
 | flt _=>obtain⟨t,rfl⟩:=r;rfl
 | ref _=>cases r;rfl
 | ty _=>cases r;rfl
theorem RelV.inj (r:RelV x u) (q:RelV y u):x=y:=Nq (r.abs.symm.trans q.abs)
theorem Vals.inj:∀{xs ys:List V}{us:List LM},Vals xs us->Vals ys us->xs=ys
 | _,_,_,.nil,.nil=>rfl
 | _,_,_,.cons r t,.cons r' t'=>by rw[r.inj r',Vals.inj t t']
section
variable {X:Cx}{pins:List (Addr × Obj)}{σ:St}{H:Hp}{s:LP}{a:Addr}{xs ys:List V}
theorem SqL.of {K:gV} (h:H a=some (.lst xs)):SqL K H a xs:=.inl (.inl h)
theorem SqT.of {K:gV} (h:H a=some (.tup xs)):SqT K H a xs:=.inl (.inl h)
theorem Inv.list (I:Inv X pins σ H s) (h:SqL X.K H a xs):∃its:List LM,Vals xs its/\PlainL s.heap a its.toArray/\xs.length<=sizeLine:=by
 rcases h with h | ⟨o,its,n,hk,hc,hd,hs,hz,r⟩
 ·obtain⟨z,its,n,r,e⟩:=h.ok I.hok
  exact⟨its,r,⟨_,n,e,rfl,rfl,rfl⟩,z⟩
 ·refine⟨its.toList,r,⟨o,n,I.kIn a o hk,hc,hd,by omega⟩,?_⟩
  have e:=r.length
  simp_all
theorem Inv.tuple (I:Inv X pins σ H s) (h:SqT X.K H a xs):∃its:List LM,Vals xs its/\IsTup s.heap a its.toArray/\xs.length<=sizeLine:=by
 rcases h with h | ⟨o,its,n,hk,hc,hs,hz,r⟩
 ·obtain⟨z,its,r,p⟩:=h.ok I.hok
  exact⟨its,r,p.tup,z⟩
 ·refine⟨its.toList,r,⟨o,I.kIn a o hk,hc,n,by omega⟩,?_⟩
  have e:=r.length
  simp_all
theorem Inv.iy (I:Inv X pins σ H s) (h:SqL X.K H a xs) (h':SqL X.K H a ys):xs=ys:=by
 obtain⟨its,r,⟨o,n,e,_,_,d⟩,_⟩:=I.list h
 obtain⟨its',r',⟨o',n',e',_,_,d'⟩,_⟩:=I.list h'
 rw[e] at e';cases e'
 rw[d] at d'
 injection d' with d1 _
 have:its=its':=by simp_all
 subst this
 exact r.inj r'
theorem Inv.gE (I:Inv X pins σ H s) (h:SqT X.K H a xs) (h':SqT X.K H a ys):xs=ys:=by
 obtain⟨its,r,⟨o,e,_,n,d⟩,_⟩:=I.tuple h
 obtain⟨its',r',⟨o',e',_,n',d'⟩,_⟩:=I.tuple h'
 rw[e] at e';cases e'
 rw[d] at d'
 injection d' with d1 _
 have:its=its':=by simp_all
 subst this
 exact r.inj r'
end
noncomputable abbrev Cx.nZ (X:Cx) (E:LM->LP->Prop):Cx:={ X with xe:=E }
noncomputable abbrev Cx.nox (X:Cx):Cx:=X.nZ fun _ _=>False
theorem Cx.Ok.nZ {X:Cx} (ok:X.Ok) (E):(X.nZ E).Ok:=
 ⟨ok.mod,ok.kind,ok.glob,ok.blt,ok.above,ok.inj,ok.has,ok.cab,ok.hd,ok.frames,ok.stk,ok.exf,ok.bs,ok.bsz,ok.vo,ok.Cd,ok.lh,ok.frf⟩
theorem Cx.Ok.iC {X:Cx} (ok:(X.nZ E).Ok):X.Ok:=
 ⟨ok.mod,ok.kind,ok.glob,ok.blt,ok.above,ok.inj,ok.has,ok.cab,ok.hd,ok.frames,ok.stk,ok.exf,ok.bs,ok.bsz,ok.vo,ok.Cd,ok.lh,ok.frf⟩
section
variable {X:Cx}{pins:List (Addr × Obj)}{σ:St}{H:Hp}{s:LP}{E:LM->LP->Prop}
theorem Inv.nZ (I:Inv X pins σ H s) (E):Inv (X.nZ E) pins σ H s:=⟨I.ok.nZ E,I.os,I.bare,I.base,I.loc,I.cell,I.free,I.gf,I.pin,I.hok,I.len⟩
theorem Inv.iC (I:Inv (X.nZ E) pins σ H s):Inv X pins σ H s:=⟨I.ok.iC,I.os,I.bare,I.base,I.loc,I.cell,I.free,I.gf,I.pin,I.hok,I.len⟩
theorem SP.iC (h:SP (X.nZ E) pins D f s'):SP X pins D f s':=by
 cases f with
 | next=>obtain⟨σ',H',I,q⟩:=h;exact⟨σ',H',I.iC,q⟩
 | brk=>obtain⟨σ',H',I,q⟩:=h;exact⟨σ',H',I.iC,q⟩
 | cont=>obtain⟨σ',H',I,q⟩:=h;exact⟨σ',H',I.iC,q⟩
 | ret u=>obtain⟨v,σ',H',I,r,q⟩:=h;exact⟨v,σ',H',I.iC,r,q⟩
theorem PSs.nox {st:List Stmt} (h:PSs X.nox st t):PSs X st t:=fun pins s σ H D I hw=>
 Nw (h pins s σ H D (I.nZ _) hw) (fun _ _ q=>q.iC) fun _ _ z=>Px z
end
section
variable {X:Cx}{st:Stmt}{rest:List Stmt}{t u:TS}{e:Expr}{te:TE}{pos:Pos}
noncomputable def Hx:TS:=fun D σ H=>D.nx σ H
noncomputable def Kk (t u:TS):TS:=fun D σ H=>t { D with nx:=u D } σ H
theorem Dn:PSs X [] Hx:=fun _ _ σ H _ I h=>PB ⟨σ,H,I,h⟩
theorem AO (h1:PS X st t) (h2:PSs X rest u):PSs X (st::rest) (Kk t u):=by
 intro pins s σ H D I h
 refine wpAny_execs_cons (thn (h1 pins s σ H { D with nx:=u D } I h) fun f s1 q=>?_)
 cases f with
 | next=>
  obtain⟨σ',H',I',q⟩:=q
  exact h2 pins s1 σ' H' D I' q
 | ret v=>exact q
 | brk=>exact q
 | cont=>exact q
theorem CZ (h1:PS X st t):PSs X [st] t:=by
 intro pins s σ H D I h
 refine wpAny_execs_cons (thn (h1 pins s σ H D I h) fun f s1 q=>?_)
 cases f with
 | next=>exact PB q
 | ret v=>exact q
 | brk=>exact q
 | cont=>exact q
noncomputable def GK:TS:=fun D σ H=>D.bk σ H
theorem zr:PS X (.Break pos) GK:=fun _ _ σ H _ I h=>wpAny_Break ⟨σ,H,I,h⟩
theorem Inv.quiet {pins:List (Addr × Obj)}{σ:St}{H:Hp}{s:LP} (I:Inv X pins σ H s):interactive X.env=false:=by simp[interactive,I.ok.kind]
noncomputable def ID (te:TE):TS:=fun D σ H=>te σ H fun _ H1=>D.nx σ H1
theorem Du (he:PE X e te) (hs:swapsWith e none pos.line X.env=pure false:=by rfl):PS X (.Expr e pos) (ID te):=by
 intro pins s σ H D I h
 exact wpAny_Expr_any (thn (he pins s σ H _ I h) fun v s1 ⟨x,H1,I1,r1,q1⟩=>⟨σ,H1,I1,q1⟩) I.quiet hs
noncomputable def KH (te:TE):TS:=fun D σ H=>te σ H D.rt
theorem Ej (he:PE X e te):PS X (.Return (some e) pos) (KH te):=by
 intro pins s σ H D I h
 exact wpAny_Return_some (thn (he pins s σ H _ I h) fun v s1 ⟨x,H1,I1,r1,q1⟩=>⟨x,σ,H1,I1,r1,q1⟩)
noncomputable def JD (c:TT) (t u:TS):TS:=fun D σ H=>c σ H fun b H1=>if b=true then t D σ H1 else u D σ H1
theorem Ha {c:Expr}{a b:List Stmt}{tc:TT} (hc:PT X c tc) (ha:PSs X a t) (hb:PSs X b u):PS X (.If c a b pos) (JD tc t u):=by
 intro pins s σ H D I h
 refine wpAny_If (thn (hc pins s σ H _ I h) fun d s1 ⟨H1,I1,q1⟩=>?_)
 cases d with
 | true=>exact ha pins s1 σ H1 D I1 q1
 | false=>exact hb pins s1 σ H1 D I1 q1
noncomputable def Gi:TS:=fun _ _ _=>False
theorem jP:PS X st Gi:=fun _ _ _ _ _ _ h=>h.elim
end
noncomputable abbrev TG:=V->St->Hp->(St->Hp->Prop)->Prop
noncomputable abbrev TGs:=List V->St->Hp->(St->Hp->Prop)->Prop
noncomputable def PG (X:Cx) (target:Expr) (t:TG):Prop:=
 ∀pins s (σ:St) H v u Q , Inv X pins σ H s->RelV v u->t v σ H Q →
  wpAny (model X.prog X.w) X.A (assign target X.env u) (fun _ s'=>∃σ' H',Inv X pins σ' H' s'/\Q σ' H') X.xe s
noncomputable def PGs (X:Cx) (ts:List Expr) (t:TGs):Prop:=
 ∀pins s (σ:St) H vs us Q , Inv X pins σ H s->Vals vs us->t vs σ H Q →
  wpAny (model X.prog X.w) X.A (assignInOrder ((assignEach ts X.env).map (·.2)) us) (fun _ s'=>∃σ' H',Inv X pins σ' H' s'/\Q σ' H') X.xe s
noncomputable abbrev A0:=V->V->V->Hp->(Hp->Prop)->Prop
noncomputable def EV (X:Cx) (t:A0):Prop:=
 ∀pins s (σ:St) H o i v ov iv u Q , Inv X pins σ H s->RelV o ov->RelV i iv->RelV v u->t o i v H Q →
  wpAny (model X.prog X.w) X.A (setItem ov iv u) (fun _ s'=>∃H',Inv X pins σ H' s'/\Q H') X.xe s
noncomputable abbrev TIp:=V->V->Hp->VK->Prop
noncomputable def PIp (X:Cx) (op:Operator) (t:TIp):Prop:=
 ∀pins s (σ:St) H x y v u Q , Inv X pins σ H s->RelV x v->RelV y u->t x y H Q →
  wpAny (model X.prog X.w) X.A (inplaceOp op v u) (EP X pins σ Q) X.xe s
section
variable {X:Cx}{pos:Pos}
noncomputable def dD (i:Nat):TG:=fun v σ H Q=>Q (σ.set i (some v)) H
theorem dU (hN:X.N.Nodup) (hi:X.N[i]?=some x) (hx:Loc X.env.scope x) (hf:X.fn x=true\/X.env.scope.names.lookup x=some .local:=by first | exact .inl rfl | exact .inr rfl | assumption):PG X (.Name x pos) (dD i):=by
 intro pins s σ H v u Q I r h
 exact P1 (iM I hN hi hx r (fun s' I'=>⟨_,H,I',h⟩) hf)
noncomputable def zq:TGs:=fun vs σ H Q=>vs=[]/\Q σ H
noncomputable def jC (t:TG) (u:TGs):TGs:=fun vs σ H Q=>∃v r,vs=v::r/\t v σ H fun σ' H'=>u r σ' H' Q
theorem qz:PGs X [] zq:=by
 intro pins s σ H vs us Q I r h
 obtain⟨e,h⟩:=h
 subst e
 cases r
 exact assignInOrder_nil ⟨σ,H,I,h⟩
theorem gJ {e:Expr}{es:List Expr}{t:TG}{u:TGs} (h1:PG X e t) (h2:PGs X es u)
  (hs:(assignEach (e::es) X.env).map (·.2)=assign e X.env::(assignEach es X.env).map (·.2):=by rfl):PGs X (e::es) (jC t u):=by
 intro pins s σ H vs us Q I r h
 obtain⟨v,vr,e1,h⟩:=h
 subst e1
 cases r with
 | cons r rr=>
  rw[hs]
  refine assignInOrder_cons (thn (h1 pins s σ H _ _ _ I r h) fun _ s1 ⟨σ1,H1,I1,q1⟩=>?_)
  exact h2 pins s1 σ1 H1 _ _ Q I1 rr q1
noncomputable def BC (K:gV) (n:Nat) (t:TGs):TG:=fun v σ H Q=>∃a xs,v=.ref a/\SqT K H a xs/\xs.length=n/\t xs σ H Q
theorem uP {k:Nat} (hc:X.calm=true) (h:PGs X es t)
  (hn:(assignEach es X.env).length=n:=by rfl) (hst:(assignEach es X.env).findIdx? (·.1)=none:=by rfl):PG X (.Tuple es k pos) (BC X.K n t):=by
 intro pins s σ H v u Q I r hw
 obtain⟨a,xs,e1,hq,hl,hw⟩:=hw
 subst e1
 cases r
 obtain⟨its,rv,ht,hz⟩:=I.tuple hq
 refine assign_Tuple_tuple (I.ok.hd hc) ht (by simp[hn,<- hl,rv.length]) hst fun h' hx=>?_
 have I1:Inv X pins σ H { s with heap:=h' }:=I.kept (t':=s.toks) fun b o e=>hx b o (LZ (LI e)) e
 exact h pins _ σ H xs _ Q I1 (by lia) hw
noncomputable def J7 (to ti:TE) (t:A0):TG:=fun v σ H Q=>to σ H fun o H1=>ti σ H1 fun i H2=>t o i v H2 fun H3=>Q σ H3
theorem GF {o i:Expr}{to ti:TE}{t:A0} (ho:PE X o to) (hi:PE X i ti) (hs:EV X t)
  (ha:∀v,assign (.Subscript o i pos) X.env v=(do
   let ov ← holding [v] (eval o X.env)
   let iv ← holding [v,ov] (eval i X.env)
   standAt pos
   holding [v,ov,iv] (setItem ov iv v)
   release [v,ov,iv] []):=by intro _;rfl):PG X (.Subscript o i pos) (J7 to ti t):=by
 intro pins s σ H v u Q I r h
 rw[ha]
 refine k3 (NO (thn (ho pins s σ H _ I h) fun ov s1 ⟨x,H1,I1,r1,q1⟩=>?_))
 refine k3 (NO (thn (hi pins s1 σ H1 _ I1 q1) fun iv s2 ⟨y,H2,I2,r2,q2⟩=>?_))
 refine k3 (Og (k3 (NO (thn (hs pins s2 σ H2 x y v ov iv u _ I2 r1 r2 r q2) fun _ s3 ⟨H3,I3,q3⟩=>?_))))
 exact wpAny_release ⟨σ,H3,I3,q3⟩
noncomputable def Ce (te:TE) (g:TG):TS:=fun D σ H=>te σ H fun x H1=>g x σ H1 D.nx
theorem zO {tg e:Expr}{te:TE}{g:TG} (he:PE X e te) (hg:PG X tg g) (hs:swapsWithSole [tg] e pos.line X.env=pure false:=by rfl) (hw:swappedStores [tg] e X.env=pure none:=by rfl)
  (h1:(assignEach [tg] X.env).map (·.2)=[assign tg X.env]:=by rfl):PS X (.Assign [tg] e pos) (Ce te g):=by
 intro pins s σ H D I h
 refine wpAny_Assign_stores (thn (he pins s σ H _ I h) fun v s1 ⟨x,H1,I1,r1,q1⟩=>?_) hs hw
 rw[h1]
 exact thn (hg pins s1 σ H1 x v _ I1 r1 q1) fun _ s2 q=>q
theorem Ey {i:Nat}{x:Str}{e:Expr}{te:TE}{pos':Pos} (hN:X.N.Nodup) (hi:X.N[i]?=some x) (hx:Loc X.env.scope x) (he:PE X e te) (hs:swapsWith e (some (.Name x pos')) pos.line X.env=pure false:=by rfl) (hf:X.fn x=true\/X.env.scope.names.lookup x=some .local:=by first | exact .inl rfl | exact .inr rfl | assumption) :
  PS X (.Assign [.Name x pos'] e pos) (Ce te (dD i)):=by
 intro pins s σ H D I h
 refine wpAny_Assign_Name (thn (he pins s σ H _ I h) fun v s1 ⟨y,H1,I1,r1,q1⟩=>?_) hs
 exact iM I1 hN hi hx r1 (fun s2 I2=>⟨_,H1,I2,q1⟩) hf
noncomputable def KQ (i:Nat) (te:TE) (ti:TIp):TS:=fun D σ H=>∃x,σ[i]?=some (some x)/\te σ H fun y H1=>ti x y H1 fun z H2=>D.nx (σ.set i (some z)) H2
theorem FZ {i:Nat}{x:Str}{e:Expr}{te:TE}{op:Operator}{ti:TIp}{pos':Pos} (hN:X.N.Nodup) (hi:X.N[i]?=some x) (hx:Loc X.env.scope x) (he:PE X e te) (ho:PIp X op ti) (hf:X.fn x=true\/X.env.scope.names.lookup x=some .local:=by first | exact .inl rfl | exact .inr rfl | assumption) :
  PS X (.AugAssign (.Name x pos') op e pos) (KQ i te ti):=by
 intro pins s σ H D I h
 obtain⟨v,e1,h⟩:=h
 obtain⟨m,hn,hl⟩:=I.loc
 have vis:Vis X.env.scope x:=by rcases hx with k | k;exact .inl k;exact .inr (.inl k)
 obtain⟨u,r,l⟩:=hl i x v hi e1 vis
 refine wpAny_AugAssign_Name ?_
 have go:wpAny (model X.prog X.w) X.A (eval e X.env) (fun w s₂=>wpAny (model X.prog X.w) X.A (inplaceOp op u w) (fun r s₃=>wpAny (model X.prog X.w) X.A (storeName X.env x r) (fun _=>SP X pins D .next) X.xe s₃) X.xe s₂) X.xe s:=by
  refine thn (he pins s σ H _ I h) fun w s1 ⟨y,H1,I1,r1,q1⟩=>?_
  refine thn (ho pins s1 σ H1 v y u w _ I1 r r1 q1) fun z s2 ⟨zv,H2,I2,r2,q2⟩=>?_
  exact iM I2 hN hi hx r2 (fun s3 I3=>⟨_,H2,I3,q2⟩) hf
 rcases l with⟨hk,hm⟩ | ⟨hk,c,hc,hcell⟩
 ·exact Pq I.ok.kind hk hn hm go
 ·rcases hk with hk | hk
  ·exact wpAny_loadName_cell I.ok.kind hk hc hcell go
  ·rcases hx with k | k
   ·have:X.env.scope.names.lookup x=some .free:=hk
    simp_all
   ·have:X.env.scope.names.lookup x=some .free:=hk
    simp_all
noncomputable def ipI (f:Int->Int->Int):TIp:=fun x y H Q=>∃i j,x=.int i/\y=.int j/\Q (.int (f i j)) H
theorem Fz:PIp X .Add (ipI fun i j=>i+j):=by
 intro pins s σ H x y v u Q I r1 r2 h
 obtain⟨i,j,e1,e2,q⟩:=h
 subst e1;subst e2
 obtain⟨t,rfl⟩:=r1
 obtain⟨t',rfl⟩:=r2
 exact iadd_int ⟨.int _,H,I.tok _,⟨_,rfl⟩,q⟩
theorem Bo:PIp X .Sub (ipI fun i j=>i - j):=by
 intro pins s σ H x y v u Q I r1 r2 h
 obtain⟨i,j,e1,e2,q⟩:=h
 subst e1;subst e2
 obtain⟨t,rfl⟩:=r1
 obtain⟨t',rfl⟩:=r2
 exact isub_int ⟨.int _,H,I.tok _,⟨_,rfl⟩,q⟩
end
section
variable {X:Cx}{pos:Pos}
noncomputable def Gw (c:TT) (tb:TS):TS:=fun D σ H=>∃W:Nat->St->Hp->Prop,(∃m,W m σ H)/\∀m σ H,W m σ H →
 c σ H fun b H1=>if b=true then ∃N:St->Hp->Prop,(∀σ' H',N σ' H'->∃m',m'<m/\W m' σ' H')/\tb { D with nx:=N,ct:=N,bk:=D.nx } σ H1 else D.nx σ H1
theorem Ad {c:Expr}{body:List Stmt}{tc:TT}{tb:TS} (hp:Q1 (model X.prog X.w) X.A X.env X.xe) (hc:PT X c tc) (hb:PSs X body tb):PS X (.While c body [] pos) (Gw tc tb):=by
 intro pins s σ H D I h
 obtain⟨W,⟨m0,w0⟩,turn⟩:=h
 refine wpAny_While (codeAny_whileLoop (fun n s'=>∃σ' H',Inv X pins σ' H' s'/\W n σ' H') ?_ m0 ⟨σ,H,I,w0⟩)
 rintro n s1 ⟨σ1,H1,I1,w1⟩
 refine N8 hp (thn (hc pins s1 σ1 H1 _ I1 (turn n σ1 H1 w1)) fun b s2 ⟨H2,I2,q2⟩=>?_)
 cases b with
 | true=>
  obtain⟨N,hN,q2⟩:=q2
  rw[if_pos rfl]
  refine N8 hp (thn (hb pins s2 σ1 H2 _ I2 q2) fun f s3 q3=>?_)
  cases f with
  | next=>
   obtain⟨σ3,H3,I3,n3⟩:=q3
   grind
  | cont=>
   obtain⟨σ3,H3,I3,n3⟩:=q3
   grind
  | brk=>exact q3
  | ret v=>exact q3
 | false=>
  rw[if_neg Mm]
  exact PB ⟨σ1,H2,I2,q2⟩
end
structure It where
 go:Nat->Hp->Prop
 yld:Nat->Hp->V->Hp->Prop
 stop:Nat->Hp->Prop
noncomputable def jf (X:Cx) (pins:List (Addr × Obj)) (H:Hp) (b:Addr):Prop:=
 H b=none/\b≠X.env.locals/\b∉X.fs/\(b∈X.ex\/X.au.heap.objs.size<=b)/\(∀x c,X.env.cells.lookup x=some c->c≠b)/\∀p∈X.pn++pins,p.1≠b
theorem Inv.Bq {σ:St}{b:Addr} (I:Inv X pins σ H s) (hb:s.heap.objs.size<=b) (hn:H' b=none):jf X pins H' b:=by
 refine⟨hn,NR (Ma I.lt hb),I.Cb hb,.inr (L0 I.sz hb),fun x c e z=>?_,fun p hp z=>?_⟩
 ·obtain⟨v,q⟩:=I.cell x c e
  exact absurd (Ma q.lt (by simp_all)) (MN _)
 ·exact absurd (Ma (LI (I.pin p hp).1) (by simp_all)) (MN _)
structure Turn (P) (w) (K) (tg) (J:It) (fp:List Addr) (it) (tn:Nat->Heap->Prop):Prop where
 mem:it∈fp
 obj:∀i h,tn i h->∀b∈fp,∃o,h.get? b=some o/\∀v,o.data≠.cell v
 keep:∀i h h',tn i h->(∀b∈fp,∀o,h.get? b=some o->h'.get? b=some o)->tn i h'
 item:∀X , X.prog=P->X.w=w->X.K=K->X.calm=true->∀i pins s (σ:St) H E , Inv X pins σ H s->(∀b∈fp,jf X pins H b)->tn i s.heap->J.go i H →
  wpAny (model P w) X.A (pyNext (.ref it)) (fun r s1=>∃u,r=some u ∧
   wpAny (model P w) X.A (letOwnedTupleGo tg (.ref it) u) (fun _ s2=>∃x H',Inv X pins σ H' s2/\RelV x u/\J.yld i H x H'/\tn (i+1) s2.heap/\∀b∈fp,H' b=none) E s1) E s
 done:∀X , X.prog=P->X.w=w->X.K=K->X.calm=true->∀i pins s (σ:St) H E , Inv X pins σ H s->(∀b∈fp,jf X pins H b)->tn i s.heap->J.stop i H →
  wpAny (model P w) X.A (pyNext (.ref it)) (fun r s1=>r=none/\Inv X pins σ H s1) E s
 self:∀A i s Q E , tn i s.heap->Q (.ref it) s->wpAny (model P w) A (pyIter (.ref it)) Q E s
noncomputable abbrev TI:=St->Hp->(It->Hp->Prop)->Prop
noncomputable def PIE (X:Cx) (pins:List (Addr × Obj)) (σ:St) (tg:Expr) (R:It->Hp->Prop) (itv:LM) (s2:LP):Prop:=
 ∃it fp tn J H',itv=.ref it/\Inv X pins σ H' s2/\Turn X.prog X.w X.K tg J fp it tn/\tn 0 s2.heap/\(∀b∈fp,jf X pins H' b)/\R J H'
noncomputable def PI (X:Cx) (tg iter:Expr) (wi:TI):Prop:=
 ∀pins s (σ:St) H R , Inv X pins σ H s->wi σ H R →
  wpAny (model X.prog X.w) X.A (eval iter X.env) (fun v s1=>wpAny (model X.prog X.w) X.A (pyIter v) (PIE X pins σ tg R) X.xe s1) X.xe s
theorem zM (ho:s.heap.get? it=some o) (hc:o.cls=.type n) (hd:o.data=.fields vs)
  (hn:["enumerate", "zip", "dict_itemiterator", "dict_reverseitemiterator", "odict_iterator", "itertools.zip_longest", "itertools.pairwise"].contains n=false) (hQ:Q () s):wpAny M A (letOwnedTupleGo tg (.ref it) u) Q E s:=by
 unfold letOwnedTupleGo
 cases tg<;>first
  | exact LJ hQ
  | (cases u<;>first
    | exact LJ hQ
    | (refine k3 (wpAny_load ho ?_)
       rw[hc,hd]
       show wpAny M A (if (["enumerate", "zip", "dict_itemiterator", "dict_reverseitemiterator", "odict_iterator", "itertools.zip_longest", "itertools.pairwise"].contains n&&vs[0]? == some (rawInt _))=true then _ else _) Q E s
       rw[if_neg (by simp_all)]
       exact LJ hQ))
noncomputable def Itl (K:gV) (a:Addr):It:=
 ⟨fun i H=>∃xs x,SqL K H a xs/\xs[i]?=some x,fun i H x H'=>H'=H/\∀xs,SqL K H a xs->xs[i]?=some x,fun i H=>∃xs,SqL K H a xs/\xs.length<=i⟩
noncomputable def Itt (K:gV) (a:Addr):It:=
 ⟨fun i H=>∃xs x,SqT K H a xs/\xs[i]?=some x,fun i H x H'=>H'=H/\∀xs,SqT K H a xs->xs[i]?=some x,fun i H=>∃xs,SqT K H a xs/\xs.length<=i⟩
noncomputable def Itr (lo:Int) (n:Nat):It:=⟨fun i _=>i<n,fun i H x H'=>H'=H/\x=.int (lo+i),fun i _=>n<=i⟩
theorem yK {K:gV} (a it):Turn P w K tg (Itl K a) [it] it (fun i h=>h.IsListIter it a i) where
 mem:=by simp
 obj:=fun i h st b hb=>by
  have e:b=it:=by simp_all
  subst e
  obtain⟨o,e,c,d⟩:=st
  simp_all
 keep:=fun i h h' st k=>st.at fun o e=>k it (by simp) o e
 item:=by
  intro X hP hw hK hc i pins s σ H E I hf st hg
  subst hP hw hK
  obtain⟨xs,x,hq,hx⟩:=hg
  obtain⟨its,rv,p,hz⟩:=I.list hq
  obtain⟨u,hu,ru⟩:=rv.get hx
  obtain⟨f0,f1,f2,f3,f4,f5⟩:=hf it (by simp)
  refine wpAny_pyNext_list_item st p.isList (x:=u) (by simp_all) fun h' st' sb=>?_
  have I1:Inv X pins σ H { s with heap:=h' }:=I.turned (t':=s.toks) (fun b o hb e=>(sb.2 b hb).trans e) f0 f1 f3 f4 f5
  obtain⟨o,e,c,d⟩:=id st'
  exact⟨u,rfl,zM (s:={ s with heap:=h' }) e c d (by decide) ⟨x,H,I1,ru,⟨rfl,fun ys hy=>by rw[I.iy hy hq];exact hx⟩,st',fun b hb=>(hf b hb).1⟩⟩
 done:=by
  intro X hP hw hK hc i pins s σ H E I hf st hg
  subst hP hw hK
  obtain⟨xs,hq,hx⟩:=hg
  obtain⟨its,rv,p,hz⟩:=I.list hq
  obtain⟨f0,f1,f2,f3,f4,f5⟩:=hf it (by simp)
  have hl:=rv.length
  exact wpAny_pyNext_list_end (I.ok.hd hc) st p.isList (by grind) fun h' eb=>⟨rfl,I.turned (t':=s.toks) (fun b o hb e=>eb b o hb e) f0 f1 f3 f4 f5⟩
 self:=fun _ _ _ _ _ st h=>wpAny_pyIter_listiter st h
theorem vQ {K:gV} (a it):Turn P w K tg (Itt K a) [it] it (fun i h=>h.IsTupleIter it a i) where
 mem:=by simp
 obj:=fun i h st b hb=>by
  have e:b=it:=by simp_all
  subst e
  obtain⟨o,e,c,d⟩:=st
  simp_all
 keep:=fun i h h' st k=>st.at fun o e=>k it (by simp) o e
 item:=by
  intro X hP hw hK hc i pins s σ H E I hf st hg
  subst hP hw hK
  obtain⟨xs,x,hq,hx⟩:=hg
  obtain⟨its,rv,p,hz⟩:=I.tuple hq
  obtain⟨u,hu,ru⟩:=rv.get hx
  obtain⟨f0,f1,f2,f3,f4,f5⟩:=hf it (by simp)
  refine wpAny_pyNext_tuple_item st (show s.heap.IsTuple a its.toArray from p) (x:=u) (by simp_all) fun h' st' sb=>?_
  have I1:Inv X pins σ H { s with heap:=h' }:=I.turned (t':=s.toks) (fun b o hb e=>(sb.2 b hb).trans e) f0 f1 f3 f4 f5
  obtain⟨o,e,c,d⟩:=id st'
  exact⟨u,rfl,zM (s:={ s with heap:=h' }) e c d (by decide) ⟨x,H,I1,ru,⟨rfl,fun ys hy=>by rw[I.gE hy hq];exact hx⟩,st',fun b hb=>(hf b hb).1⟩⟩
 done:=by
  intro X hP hw hK hc i pins s σ H E I hf st hg
  subst hP hw hK
  obtain⟨xs,hq,hx⟩:=hg
  obtain⟨its,rv,p,hz⟩:=I.tuple hq
  obtain⟨f0,f1,f2,f3,f4,f5⟩:=hf it (by simp)
  have hl:=rv.length
  exact wpAny_pyNext_tuple_end (I.ok.hd hc) st (show s.heap.IsTuple a its.toArray from p) (by grind) fun h' eb=>⟨rfl,I.turned (t':=s.toks) (fun b o hb e=>eb b o hb e) f0 f1 f3 f4 f5⟩
 self:=fun _ _ _ _ _ st h=>wpAny_pyIter_tupleiter st h
theorem vq {K:gV} (it) (lo) (n):Turn P w K tg (Itr lo n) [it] it (fun i h=>IsRangeIter h it (lo+(i:Nat)*1) ((n:Int) - (i:Nat)) 1) where
 mem:=by simp
 obj:=fun i h st b hb=>by
  simp_all
 keep:=fun i h h' st k=>k it (by simp) _ st
 item:=by
  intro X hP hw hK hc i pins s σ H E I hf st hg
  subst hP hw hK
  obtain⟨f0,f1,f2,f3,f4,f5⟩:=hf it (by simp)
  have W:=Walks.range (prog:=X.prog) (w:=X.w) (I.ok.hd hc) it lo 1 n
  refine W.item i s _ _ hg st fun v h' tk hv st' kk=>?_
  obtain⟨t,rfl⟩:=hv
  have I1:Inv X pins σ H { s with heap:=h',toks:=tk }:=I.turned (fun b o hb e=>kk b o (by simp_all) e) f0 f1 f3 f4 f5
  refine⟨_,rfl,zM (s:={ s with heap:=h',toks:=tk }) (n:="range_iterator") st' rfl rfl (by decide) ⟨.int (lo+i),H,I1,⟨t,?_⟩,⟨rfl,rfl⟩,st',fun b hb=>(hf b hb).1⟩⟩
  simp
 done:=by
  intro X hP hw hK hc i pins s σ H E I hf st hg
  subst hP hw hK
  obtain⟨f0,f1,f2,f3,f4,f5⟩:=hf it (by simp)
  exact wpAny_pyNext_range_end (I.ok.hd hc) st (by have:n<=i:=hg;lia) fun h' eb=>⟨rfl,I.turned (t':=s.toks) (fun b o hb e=>eb b o hb e) f0 f1 f3 f4 f5⟩
 self:=fun _ _ _ _ _ st h=>wpAny_pyIter_rangeiter st h
section
variable {X:Cx}{tg:Expr}
theorem rK {σ:St}{lo hi:Int} (I:Inv X pins σ H s) (h1:-(2 ^ 62)<=lo) (h2:lo<2 ^ 62) (h3:-(2 ^ 62)<=hi) (h4:hi<2 ^ 62)
  (q:R (Itr lo (hi - lo).toNat) H):wpAny (model X.prog X.w) X.A (pyIter (.ref s.heap.objs.size)) (PIE X pins σ tg R) E { s with heap:=s.heap.push { cls:=.type "range", data:=.fields #[.int lo t,.int hi u,.int 1 v] },toks:=tk }:=by
 refine wpAny_pyIter_range (IsRange.new ..) (small_one h1 h2 h3 h4) ?_
 have I1:Inv X pins σ H { s with heap:=s.heap.push { cls:=.type "range", data:=.fields #[.int lo t,.int hi u,.int 1 v] },toks:=tk }:=I.kept fun b o e=>ox _ e
 refine⟨(s.heap.push { cls:=.type "range", data:=.fields #[.int lo t,.int hi u,.int 1 v] }).objs.size,[(s.heap.push { cls:=.type "range", data:=.fields #[.int lo t,.int hi u,.int 1 v] }).objs.size],_,_,H,rfl,
  I1.kept (t':=tk) fun b o e=>ox _ e,vq _ lo (hi - lo).toNat,?_,fun b hb=>?_,q⟩
 ·have e1:lo+((0:Nat):Int)*1=lo:=by simp
  have e2:(((hi - lo).toNat:Nat):Int) - ((0:Nat):Int)=NC.Range.rangeSize lo hi 1:=by rw[rangeSize_one];lia
  show IsRangeIter _ _ (lo+((0:Nat):Int)*1) ((((hi - lo).toNat:Nat):Int) - ((0:Nat):Int)) 1
  rw[e1,e2]
  exact LN _ rfl
 ·have e:b=(s.heap.push { cls:=.type "range", data:=.fields #[.int lo t,.int hi u,.int 1 v] }).objs.size:=by simp_all
  subst e
  exact I1.Bq (LH _) (I1.hok.fresh (LH _))
noncomputable def HM (ta:TA):TI:=fun σ H R=>ta σ H fun vs H1=>∃j:Int,vs=[.int j]/\-(2 ^ 62)<=j/\j<2 ^ 62/\R (Itr 0 j.toNat) H1
noncomputable def Jj (ta:TA):TI:=fun σ H R=>ta σ H fun vs H1=>∃i j:Int,vs=[.int i,.int j]/\(-(2 ^ 62)<=i/\i<2 ^ 62/\-(2 ^ 62)<=j/\j<2 ^ 62)/\R (Itr i (j - i).toNat) H1
theorem zb {a:Expr}{ta:TA}{p pos:Pos} (hg:Gl X "range") (hm:X.mg "range" = none) (ha:PA X [a] ta) (hs:starEach [a] X.env=[(false,eval a X.env)]:=by rfl):PI X tg (.Call (.Name "range" p) [a] [] pos) (HM ta):=by
 intro pins s σ H R I h
 refine Call_ (jh I hg hm boot_range (Nr (thn (ha pos pins s σ H _ I h) fun us s1 ⟨vs,H1,I1,r1,q1⟩=>?_) hs rfl))
 obtain⟨j,e,q1,q2,q⟩:=q1
 subst e
 cases r1 with
 | cons r rr=>
  cases rr
  obtain⟨t,rfl⟩:=r
  exact call_range_1 (rK I1 (by lia) (by lia) q1 q2 (by simp_all))
theorem x9 {a b:Expr}{ta:TA}{p pos:Pos} (hg:Gl X "range") (hm:X.mg "range" = none) (ha:PA X [a,b] ta) (hs:starEach [a,b] X.env=[(false,eval a X.env),(false,eval b X.env)]:=by rfl) (hs2:starEach [b] X.env=[(false,eval b X.env)]:=by rfl) :
  PI X tg (.Call (.Name "range" p) [a,b] [] pos) (Jj ta):=by
 intro pins s σ H R I h
 refine Call_ (jh I hg hm boot_range (Nr (thn (ha pos pins s σ H _ I h) fun us s1 ⟨vs,H1,I1,r1,q1⟩=>?_) (by grind) (by rw[hs2];rfl)))
 obtain⟨i,j,e,⟨q1,q2,q3,q4⟩,q⟩:=q1
 subst e
 cases r1 with
 | cons r rr=>
  cases rr with
  | cons r' rr=>
   cases rr
   obtain⟨t,rfl⟩:=r
   obtain⟨t',rfl⟩:=r'
   exact call_range_2 (rK I1 q1 q2 q3 q4 q)
noncomputable def Ku (wi:TI) (g:TG) (tb:TS):TS:=fun D σ H=>wi σ H fun J H1=>∃W:Nat->Nat->St->Hp->Prop,(∃m,W 0 m σ H1)/\∀i m σ H,W i m σ H →
 (J.stop i H/\D.nx σ H)\/(J.go i H/\∃N:St->Hp->Prop,(∀σ' H',N σ' H'->∃m',m'<m/\W (i+1) m' σ' H')/\∀x H',J.yld i H x H'->g x σ H' fun σ2 H2=>tb { D with nx:=N,ct:=N,bk:=D.nx } σ2 H2)
noncomputable def fK (fp:List Addr) (h:Heap):List (Addr × Obj):=fp.filterMap fun b=>(h.get? b).map fun o=>(b,o)
theorem bW (hb:b∈fp) (e:h.get? b=some o):(b,o)∈fK fp h:=List.mem_filterMap.mpr ⟨b,hb,by grind⟩
theorem yV (hp:p∈fK fp h):p.1∈fp/\h.get? p.1=some p.2:=by
 obtain⟨b,hb,e⟩:=List.mem_filterMap.mp hp
 cases q:h.get? b with
 | none=>simp_all
 | some o=>
  grind
theorem Inv.pinned {σ:St} (I:Inv X pins σ H s) (hf:∀b∈fp,jf X pins H b) (ho:∀b∈fp,∃o,s.heap.get? b=some o/\∀v,o.data≠.cell v):Inv X (pins++fK fp s.heap) σ H s:=
 I.iS fun p hp=>(Ml.mp hp).elim (fun z=>I.pin p (tv _ z)) fun z=>by
  obtain⟨hb,e⟩:=yV z
  obtain⟨f0,f1,f2,_⟩:=hf p.1 hb
  grind
theorem Inv.eO {σ:St} (I:Inv X (pins++pl) σ H s):Inv X pins σ H s:=I.iS fun p hp=>I.pin p (tv _ (OG _ hp))
theorem Gy {iter:Expr}{body:List Stmt}{wi:TI}{g:TG}{tb:TS}{pos:Pos} (hp:Q1 (model X.prog X.w) X.A X.env X.xe) (hc:X.calm=true) (hi:PI X tg iter wi) (hg:PG X tg g) (hb:PSs X body tb)
  (hs:∀x,foldedSetIterable iter X.env x=pure x:=by intro _;rfl):PS X (.For tg iter body [] pos) (Ku wi g tb):=by
 intro pins s σ H D I h
 refine wpAny_For (thn (hi pins s σ H _ I h) fun v s1 h1=>thn h1 fun itv s2 h2=>?_) hs
 obtain⟨it,fp,tn,J,H2,e,I2,T,st2,f2,W,⟨m0,w0⟩,turn⟩:=h2
 subst e
 -- what stays true of the iterator's objects through the loop
 have stat:∀{H':Hp},(∀b∈fp,H' b=none)->∀b∈fp,jf X pins H' b:=fun hn b hb=>⟨hn b hb,(f2 b hb).2⟩
 refine codeAny_forLoop_any (fun n s'=>∃i σ' H',Inv X pins σ' H' s'/\tn i s'.heap/\(∀b∈fp,H' b=none)/\W i n σ' H') ?_ m0 ⟨0,σ,H2,I2,st2,fun b hb=>(f2 b hb).1,w0⟩
 rintro n s3 ⟨i,σ3,H3,I3,st3,fr3,w3⟩
 rcases turn i n σ3 H3 w3 with⟨stop,qn⟩ | ⟨go,N,hN,step⟩
 ·refine N8 hp (thn (T.done X rfl rfl rfl hc i pins s3 σ3 H3 X.xe I3 (stat fr3) st3 stop) fun r s4 ⟨hr,I4⟩=>?_)
  subst hr
  exact PB ⟨σ3,H3,I4,qn⟩
 ·refine N8 hp (thn (T.item X rfl rfl rfl hc i pins s3 σ3 H3 X.xe I3 (stat fr3) st3 go) fun r s4 ⟨u,hr,h4⟩=>?_)
  subst hr
  refine N8 hp (thn h4 fun _ s5 ⟨x,H5,I5,r5,y5,st5,fr5⟩=>?_)
  have I5':=I5.pinned (stat fr5) (T.obj _ _ st5)
  refine N8 hp (thn (hg _ s5 σ3 H5 x u _ I5' r5 (step x H5 y5)) fun _ s6 ⟨σ6,H6,I6,q6⟩=>?_)
  refine N8 hp (thn (hb _ s6 σ6 H6 _ I6 q6) fun f s7 q7=>?_)
  have again:∀{σ7:St} {H7:Hp},Inv X (pins++fK fp s5.heap) σ7 H7 s7->N σ7 H7->∃m,m<n/\∃i σ' H',Inv X pins σ' H' s7/\tn i s7.heap/\(∀b∈fp,H' b=none)/\W i m σ' H':=fun{σ7 H7} I7 n7=>by
   obtain⟨m',hm,w7⟩:=hN σ7 H7 n7
   refine⟨m',hm,i+1,σ7,H7,I7.eO,T.keep _ _ _ st5 fun b hb o e=>(I7.pin (b,o) (tv _ (tv _ (bW hb e)))).1,fun b hb=>?_,w7⟩
   obtain⟨o,e,d⟩:=T.obj _ _ st5 b hb
   exact(I7.pin (b,o) (tv _ (tv _ (bW hb e)))).2.1
  cases f with
  | next=>obtain⟨σ7,H7,I7,n7⟩:=q7;grind
  | cont=>obtain⟨σ7,H7,I7,n7⟩:=q7;grind
  | brk=>obtain⟨σ7,H7,I7,q7⟩:=q7;exact⟨σ7,H7,I7.eO,q7⟩
  | ret v=>obtain⟨x7,σ7,H7,I7,r7,q7⟩:=q7;exact⟨x7,σ7,H7,I7.eO,r7,q7⟩
end
noncomputable abbrev R2:=V->V->Hp->VK->Prop
noncomputable def OpR (X:Cx) (f:LM->LM->Sem LM) (r:R2):Prop:=
 ∀pins s (σ:St) H x y v u Q , Inv X pins σ H s->RelV x v->RelV y u->r x y H Q →
  wpAny (model X.prog X.w) X.A (f v u) (EP X pins σ Q) X.xe s
noncomputable def UnR (X:Cx) (f:LM->Sem LM) (r:V->Hp->VK->Prop):Prop:=
 ∀pins s (σ:St) H x v Q , Inv X pins σ H s->RelV x v->r x H Q →
  wpAny (model X.prog X.w) X.A (f v) (EP X pins σ Q) X.xe s
noncomputable def bJ (X:Cx) (f:LM) (r:List V->Hp->VK->Prop):Prop:=
 ∀pins s (σ:St) H xs us Q , Inv X pins σ H s->Vals xs us->r xs H Q →
  wpAny (model X.prog X.w) X.A (call f us) (EP X pins σ Q) X.xe s
noncomputable def KJ (X:Cx) (r:V->Hp->(Bool->Hp->Prop)->Prop):Prop:=
 ∀pins s (σ:St) H x v Q , Inv X pins σ H s->RelV x v->r x H Q →
  wpAny (model X.prog X.w) X.A (truthy v) (TP X pins σ Q) X.xe s
noncomputable def tOp (r:R2) (ta tb:TE):TE:=fun σ H Q=>ta σ H fun x H1=>tb σ H1 fun y H2=>r x y H2 Q
noncomputable def tUn (r:V->Hp->VK->Prop) (ta:TE):TE:=fun σ H Q=>ta σ H fun x H1=>r x H1 Q
noncomputable def rI (C:Int->Int->Prop) (g:Int->Int->V):R2:=fun x y H Q=>∃i j,x=.int i/\y=.int j/\C i j/\Q (g i j) H
noncomputable def rI0 (g:Int->Int->V):R2:=fun x y H Q=>∃i j,x=.int i/\y=.int j/\Q (g i j) H
noncomputable def rU (g:Int->V):V->Hp->VK->Prop:=fun x H Q=>∃i,x=.int i/\Q (g i) H
section
variable {X:Cx}{a b c:Expr}{ta tb tc:TE}{pos:Pos}
theorem Fs (ha:PE X a ta) (hb:PE X b tb){σ:St}{R:V->V->Hp->Prop} (I:Inv X pins σ H s)
  (h:ta σ H fun x H1=>tb σ H1 fun y H2=>R x y H2) {f:LM->LM->Sem LM}
  (hf:∀v u s2 x y H2,Inv X pins σ H2 s2->RelV x v->RelV y u->R x y H2->wpAny (model X.prog X.w) X.A (f v u) Q X.xe s2) :
  wpAny (model X.prog X.w) X.A (eval a X.env) (fun v s₁=>wpAny (model X.prog X.w) X.A (eval b X.env) (fun u s₂=>wpAny (model X.prog X.w) X.A (f v u) Q X.xe s₂) X.xe s₁) X.xe s:=by
 refine thn (ha pins s σ H _ I h) fun v s1 ⟨x,H1,I1,r1,q1⟩=>?_
 refine thn (hb pins s1 σ H1 _ I1 q1) fun u s2 ⟨y,H2,I2,r2,q2⟩=>?_
 grind
theorem Ic (ho:OpR X (binaryOp op) r) (ha:PE X a ta) (hb:PE X b tb):PE X (.BinOp a op b pos) (tOp r ta tb):=by
 intro pins s σ H Q I h
 exact wpAny_BinOp (Fs ha hb I h fun v u s2 x y H2 I2 rx ry q=>ho pins s2 σ H2 x y v u Q I2 rx ry q)
theorem Hl {op:UnaryOp}{r:V->Hp->VK->Prop} (ho:UnR X (unaryOp op) r) (ha:PE X a ta):PE X (.UnaryOp op a pos) (tUn r ta):=by
 intro pins s σ H Q I h
 exact UnaryOp_ (thn (ha pins s σ H _ I h) fun v s1 ⟨x,H1,I1,r1,q1⟩=>ho pins s1 σ H1 x v Q I1 r1 q1)
theorem opI {g:Int->Int->Int}
  (rule:∀i j t u s Q E , C i j->Q (.int (g i j) s.toks) { s with toks:=s.toks+1 }->wpAny (model X.prog X.w) X.A (f (.int i t) (.int j u)) Q E s) :
  OpR X f (rI C fun i j=>.int (g i j)):=by
 intro pins s σ H x y v u Q I rx ry h
 obtain⟨i,j,rfl,rfl,hc,q⟩:=h
 obtain⟨t,rfl⟩:=rx
 obtain⟨t',rfl⟩:=ry
 exact rule i j t t' s _ _ hc ⟨.int (g i j),H,I.tok _,⟨_,rfl⟩,q⟩
theorem HZ {g:Int->Int->Int}
  (rule:∀i j t u s Q E , Q (.int (g i j) s.toks) { s with toks:=s.toks+1 }->wpAny (model X.prog X.w) X.A (f (.int i t) (.int j u)) Q E s) :
  OpR X f (rI0 fun i j=>.int (g i j)):=by
 intro pins s σ H x y v u Q I rx ry h
 obtain⟨i,j,rfl,rfl,q⟩:=h
 obtain⟨t,rfl⟩:=rx
 obtain⟨t',rfl⟩:=ry
 exact rule i j t t' s _ _ ⟨.int (g i j),H,I.tok _,⟨_,rfl⟩,q⟩
theorem BP {g:Int->Int->Bool}
  (rule:∀i j t u s Q E , Q (.bool (g i j)) s->wpAny (model X.prog X.w) X.A (f (.int i t) (.int j u)) Q E s) :
  OpR X f (rI0 fun i j=>.bl (g i j)):=by
 intro pins s σ H x y v u Q I rx ry h
 obtain⟨i,j,rfl,rfl,q⟩:=h
 obtain⟨t,rfl⟩:=rx
 obtain⟨t',rfl⟩:=ry
 exact rule i j t t' s _ _ ⟨.bl (g i j),H,I,rfl,q⟩
theorem Fx:OpR X (binaryOp .Add) (rI0 fun i j=>.int (i+j)):=HZ fun _ _ _ _ _ _ _ q=>add_int q
theorem F7:OpR X (binaryOp .Sub) (rI0 fun i j=>.int (i - j)):=HZ fun _ _ _ _ _ _ _ q=>sub_int q
theorem GP:OpR X (binaryOp .Mod) (rI (fun _ j=>0<j) fun i j=>.int (i % j)):=opI fun i j _ _ _ _ _ hc q=>by
 have h1:(0:Int)<j:=hc
 exact mod_int' (by lia) (by grind)
theorem unI {g:Int->Int}
  (rule:∀i t s Q E , Q (.int (g i) s.toks) { s with toks:=s.toks+1 }->wpAny (model X.prog X.w) X.A (f (.int i t)) Q E s) :
  UnR X f (rU fun i=>.int (g i)):=by
 intro pins s σ H x v Q I rx h
 obtain⟨i,rfl,q⟩:=h
 obtain⟨t,rfl⟩:=rx
 exact rule i t s _ _ ⟨.int (g i),H,I.tok _,⟨_,rfl⟩,q⟩
theorem kl:UnR X (unaryOp .USub) (rU fun i=>.int (-i)):=unI fun _ _ _ _ _ q=>neg_int q
end
section
variable {X:Cx}{a b c:Expr}{ta tb tc:TE}{pos:Pos}
theorem HV:OpR X (compareOp .Lt) (rI0 fun i j=>.bl (decide (i<j))):=BP fun _ _ _ _ _ _ _ q=>lt_int q
theorem uc:OpR X (compareOp .LtE) (rI0 fun i j=>.bl (decide (i<=j))):=BP fun _ _ _ _ _ _ _ q=>le_int q
theorem HA:OpR X (compareOp .Gt) (rI0 fun i j=>.bl (decide (j<i))):=BP fun _ _ _ _ _ _ _ q=>gt_int q
theorem Hu:OpR X (compareOp .GtE) (rI0 fun i j=>.bl (decide (j<=i))):=BP fun _ _ _ _ _ _ _ q=>ge_int q
theorem bP (b) (h:op≠.In:=by decide) (h2:op≠.NotIn:=by decide):behindInMarks op b=false:=by
 have e1:(op == CmpOp.In)=false:=by simp_all
 have e2:(op == CmpOp.NotIn)=false:=by simp_all
 cases b<;>simp[behindInMarks,e1,e2]
theorem CS (ho:OpR X (compareOp op) r) (ha:PE X a ta) (hb:PE X b tb) (hm:behindInMarks op b=false):PE X (.Compare a [op] [b] pos) (tOp r ta tb):=by
 intro pins s σ H Q I h
 exact wpAny_Compare1 (Fs ha hb I h fun v u s2 x y H2 I2 rx ry q=>ho pins s2 σ H2 x y v u Q I2 rx ry q) hm
noncomputable def zo (t:TE):TT:=fun σ H Q=>t σ H fun x H'=>∃k,x=.bl k/\Q k H'
theorem Cr {op:CmpOp}{r:R2} (ho:OpR X (compareOp op) r) (ha:PE X a ta) (hb:PE X b tb) (hm:behindInMarks op b=false):PT X (.Compare a [op] [b] pos) (zo (tOp r ta tb)):=by
 intro pins s σ H Q I h
 refine wpAny_isTrue_Compare1 (thn (ha pins s σ H _ I h) fun v s1 ⟨x,H1,I1,r1,q1⟩=>thn (hb pins s1 σ H1 _ I1 q1) fun u s2 ⟨y,H2,I2,r2,q2⟩=>
  thn (ho pins s2 σ H2 x y v u _ I2 r1 r2 q2) fun c s3 ⟨z,H3,I3,r3,k,e,q3⟩=>?_) hm
 subst e
 cases r3
 exact NB ⟨H3,I3,q3⟩
noncomputable def vi (r r':R2) (ta tb tc:TE):TE:=fun σ H Q=>ta σ H fun x H1=>tb σ H1 fun y H2=>r x y H2 fun z H3=>∃k,z=.bl k ∧
 (if k=true then tc σ H3 fun w' H4=>r' y w' H4 Q else Q (.bl false) H3)
theorem zR {op op':CmpOp}{r r':R2} (ho:OpR X (compareOp op) r) (ho':OpR X (compareOp op') r') (ha:PE X a ta) (hb:PE X b tb) (hc:PE X c tc)
  (hm:lastMarks [op,op'] [b,c]=false:=by with_unfolding_all rfl):PE X (.Compare a [op,op'] [b,c] pos) (vi r r' ta tb tc):=by
 intro pins s σ H Q I h
 refine Compare_chain (thn (ha pins s σ H _ I h) fun v s1 ⟨x,H1,I1,r1,q1⟩=>chain_link (thn (hb pins s1 σ H1 _ I1 q1) fun u s2 ⟨y,H2,I2,r2,q2⟩=>
  thn (ho pins s2 σ H2 x y v u _ I2 r1 r2 q2) fun d s3 ⟨z,H3,I3,r3,k,e,q3⟩=>?_)) hm
 subst e
 cases r3
 refine NB ?_
 cases k with
 | false=>exact ite_ff ⟨.bl false,H3,I3,rfl,q3⟩
 | true=>exact ite_tt (chain_last (thn (hc pins s3 σ H3 _ I3 q3) fun w' s4 ⟨z',H4,I4,r4,q4⟩=>ho' pins s4 σ H4 y z' u w' Q I4 r2 r4 q4))
theorem AR {op op':CmpOp}{r r':R2} (ho:OpR X (compareOp op) r) (ho':OpR X (compareOp op') r') (ha:PE X a ta) (hb:PE X b tb) (hc:PE X c tc)
  (hm:lastMarks [op,op'] [b,c]=false:=by with_unfolding_all rfl):PT X (.Compare a [op,op'] [b,c] pos) (zo (vi r r' ta tb tc)):=by
 intro pins s σ H Q I h
 refine isTrue_chain (thn (ha pins s σ H _ I h) fun v s1 ⟨x,H1,I1,r1,q1⟩=>test_link (thn (hb pins s1 σ H1 _ I1 q1) fun u s2 ⟨y,H2,I2,r2,q2⟩=>
  thn (ho pins s2 σ H2 x y v u _ I2 r1 r2 q2) fun d s3 ⟨z,H3,I3,r3,k,e,q3⟩=>?_)) hm
 subst e
 cases r3
 refine NB ?_
 cases k with
 | false=>
  obtain⟨k',e',q'⟩:=q3
  cases e'
  exact ite_ff ⟨H3,I3,q'⟩
 | true=>
  refine ite_tt (test_last (thn (hc pins s3 σ H3 _ I3 q3) fun w' s4 ⟨z',H4,I4,r4,q4⟩=>thn (ho' pins s4 σ H4 y z' u w' _ I4 r2 r4 q4) fun d' s5 ⟨z2,H5,I5,r5,k2,e2,q5⟩=>?_))
  subst e2
  cases r5
  exact NB ⟨H5,I5,q5⟩
noncomputable def Dv (K:gV) (x:V) (H:Hp) (k:Bool):Prop:=
 match x with
 | .non=>k=false
 | .bl b=>k=b
 | .int i=>k=(i != 0)
 | .str y=>y.length<=sizeLine/\k=((y.length:Int) != 0)
 | .byt y=>y.size<=sizeLine/\k=((y.size:Int) != 0)
 | .ref p=>(∃xs,SqL K H p xs/\k = !xs.isEmpty)\/(∃xs,SqT K H p xs/\k = !xs.isEmpty)\/∃kvs,H p=some (.dK kvs)/\k = !kvs.isEmpty
 | _=>False
theorem u3 (r:KV kvs vs):(!vs.isEmpty) = !kvs.isEmpty:=by
 cases r<;>rfl
theorem lX (r:Vals xs its):(!its.toArray.isEmpty) = !xs.isEmpty:=by
 cases r<;>simp
theorem jn:(sizeLine:Nat)<2 ^ 63:=by rw[MV];decide
theorem F4:KJ X (fun x H Q=>∃k,Dv X.K x H k/\Q k H):=by
 intro pins s σ H x v Q I rx h
 obtain⟨k,e,q⟩:=h
 have hl:=jn
 have hs:sizeLine=16777216:=MV
 cases x with
 | non=>
  cases rx
  have e':k=false:=e
  subst e'
  exact truthy_none ⟨H,I,q⟩
 | bl b=>
  cases rx
  have e':k=b:=e
  subst e'
  exact NB ⟨H,I,q⟩
 | int i=>
  obtain⟨t,rfl⟩:=rx
  have e':k=(i != 0):=e
  subst e'
  exact PySem.P.truthy_int ⟨H,I,q⟩
 | str y=>
  obtain⟨t,rfl⟩:=rx
  obtain⟨hy,e'⟩:y.length<=sizeLine/\k=((y.length:Int) != 0):=e
  subst e'
  exact PySem.P.truthy_str (by lia) ⟨H,I.tok _,q⟩
 | byt y=>
  obtain⟨t,rfl⟩:=rx
  obtain⟨hy,e'⟩:y.size<=sizeLine/\k=((y.size:Int) != 0):=e
  subst e'
  exact PySem.W.truthy_bytes (by lia) ⟨H,I.tok _,q⟩
 | ref p=>
  cases rx
  have e':(∃xs,SqL X.K H p xs/\k = !xs.isEmpty)\/(∃xs,SqT X.K H p xs/\k = !xs.isEmpty)\/∃kvs,H p=some (.dK kvs)/\k = !kvs.isEmpty:=e
  rcases e' with⟨xs,hx,e'⟩ | ⟨xs,hx,e'⟩ | ⟨kvs,hx,e'⟩
  ·subst e'
   obtain⟨its,r,pl,hz⟩:=I.list hx
   have hlen:=r.length
   exact wpAny_truthy_list pl.isList (by grind) ⟨H,I.tok _,by rw[lX r];exact q⟩
  ·subst e'
   obtain⟨its,r,pl,hz⟩:=I.tuple hx
   have hlen:=r.length
   exact truthy_tuple pl (by grind) ⟨H,I.tok _,by rw[lX r];exact q⟩
  ·subst e'
   obtain⟨hz,hS,vs,r,m⟩:kvs.length<=sizeLine/\(p == sysModules)=false/\∃vs,KV kvs vs/\s.heap.DictOf (qX X.prog X.w) p vs:=I.hok p _ hx
   have hlen:kvs.length=vs.length:=Paired.length r
   exact wpAny_truthy_dict hS m (by lia) ⟨H,I.tok _,by rw[u3 r];exact q⟩
 | _=>exact(show False from e).elim
theorem AY (ha:PE X a ta) (he:∀whole,isTrue a X.env whole=(do let v ← whole;standAt a.pos;holding [v] (truthy v))) :
  PT X a (fun σ H Q=>ta σ H fun x H'=>∃k,Dv X.K x H' k/\Q k H'):=by
 intro pins s σ H Q I h
 exact isTrue_plain (thn (ha pins s σ H _ I h) fun v s1 ⟨x,H1,I1,r1,q1⟩=>F4 pins s1 σ H1 x v Q I1 r1 q1) (he _)
theorem vF:OpR X (binaryOp .Add) (fun x y H Q=>∃i j,x=.str i/\y=.str j/\i.length+j.length<=sizeLine/\Q (.str (i++j)) H):=by
 intro pins s σ H x y v u Q I rx ry h
 obtain⟨i,j,rfl,rfl,hz,q⟩:=h
 obtain⟨t,rfl⟩:=rx
 obtain⟨t',rfl⟩:=ry
 exact add_str (fun t' tk=>⟨.str (i++j),H,I.tok _,⟨_,rfl⟩,q⟩) hz
theorem vals1 (r:Vals [x] us):∃u,us=[u]/\RelV x u:=by
 cases r with
 | cons r1 r2=>cases r2;simp_all
theorem vals2 (r:Vals [x,y] us):∃u w',us=[u,w']/\RelV x u/\RelV y w':=by
 cases r with
 | cons r1 r2=>
  cases r2 with
  | cons r3 r4=>cases r4;grind
theorem yH (hc:X.calm=true):bJ X (.builtin "max") (fun xs H Q=>∃i j,xs=[.int i,.int j]/\Q (.int (if j > i then j else i)) H):=by
 intro pins s σ H xs us Q I r h
 obtain⟨i,j,rfl,q⟩:=h
 obtain⟨u,w',rfl,⟨t,rfl⟩,⟨t',rfl⟩⟩:=vals2 r
 refine max_two_ints (I.ok.hd hc) fun h' tk k=>⟨_,H,I.kept k,?_,q⟩
 by_cases hj:j > i
 ·rw[if_pos hj,if_pos hj];exact⟨_,rfl⟩
 ·rw[if_neg hj,if_neg hj];exact⟨_,rfl⟩
theorem zj (hc:X.calm=true):bJ X (.builtin "min") (fun xs H Q=>∃i j,xs=[.int i,.int j]/\Q (.int (if j<i then j else i)) H):=by
 intro pins s σ H xs us Q I r h
 obtain⟨i,j,rfl,q⟩:=h
 obtain⟨u,w',rfl,⟨t,rfl⟩,⟨t',rfl⟩⟩:=vals2 r
 refine min_two_ints (I.ok.hd hc) fun h' tk k=>⟨_,H,I.kept k,?_,q⟩
 by_cases hj:j<i
 ·rw[if_pos hj,if_pos hj];exact⟨_,rfl⟩
 ·rw[if_neg hj,if_neg hj];exact⟨_,rfl⟩
theorem oU:bJ X (.type "int") (fun xs H Q=>(∃i,xs=[.int i]/\Q (.int i) H)\/∃k,xs=[.bl k]/\Q (.int (if k then 1 else 0)) H):=by
 intro pins s σ H xs us Q I r h
 rcases h with⟨i,rfl,q⟩ | ⟨k,rfl,q⟩
 ·obtain⟨u,rfl,t,rfl⟩:=vals1 r
  exact call_int_int ⟨.int i,H,I,⟨_,rfl⟩,q⟩
 ·obtain⟨u,rfl,r1⟩:=vals1 r
  cases r1
  exact call_int_bool ⟨.int (if k then 1 else 0),H,I.tok _,⟨_,rfl⟩,q⟩
end
structure Fo (h:Heap) (x dx C) (mA):Prop where
 obj:h.get? x=some (Qg C dx)
 ns:h.Ns1 dx mA
 ne:dx≠x
theorem yd {h:Heap} (n:h.Ns1 dx mA):∃od,h.get? dx=some od/\∀name,Qs name od=some (mA name):=by
 obtain⟨o,es,ep,ho,hd,hk,_,hm⟩:=n
 refine⟨o,ho,fun name=>?_⟩
 have e:=hm name
 unfold nsFind findBy at e
 rw[<- Array.find?_toList] at e
 unfold Qs
 rw[hd]
 dsimp only
 split
 ·simp_all
 ·rename_i q
  rw[q] at e
  have a:es.toList.any (·.refKey)=false:=by
   rw[O8]
   intro y hy
   obtain⟨z,t,hkey⟩:=hk y (Nx.mp hy)
   simp[DictEntry.refKey,hkey]
  simp_all
theorem Fo.look {h:Heap}{x dx C:Addr}{mA:Str->Option LM} (I:Fo h x dx C mA):∃od,PySem.W.InstAt h x (Qg C dx) C (some od)/\∀name,Qs name od=some (mA name):=
 let ⟨od,ho,hl⟩:=yd I.ns
 ⟨od,⟨I.obj,rfl,rfl,ho⟩,hl⟩
section
variable {P:Mc}{w:MU}{H H':Hp}{h h':Heap}{a C dx:Addr}{fs fs':List (Str × V)}
theorem C4 (hok:HOk P w H h) (e:H a=some (.ins C dx fs)):∃mA,Fo h a dx C mA/\(∀f,E9 (fs.lookup f) (mA f))/\PySem.Within mA (fs.map (·.1))/\fs.length<=1000/\H dx=some (.own a):=by
 obtain⟨d,z,ne,ob,mA,n,r,q⟩:=(show cL P w H h a (.ins C dx fs) from hok a _ e)
 exact⟨mA,⟨ob,n,ne⟩,r,q,z,d⟩
end
structure Cls (K) (C):Prop where
 pg:PySem.W.plainGet K C Str.empty=true
 hd:PySem.W.hasDictIn K C=true
 po:PySem.W.plainOver K C=true
 sa:PySem.W.findIn K (.ref C) "__setattr__" = some (some (.builtin "object.__setattr__"))
theorem Cls.get {K:gV} (c:Cls K C) (f):PySem.W.plainGet K C f=true:=c.pg
section
variable {X:Cx}{pins:List (Addr × Obj)}{σ:St}{H:Hp}{s:LP}{A:MY}{E:LM->LP->Prop}{Q:LM->LP->Prop}{c:LM}{b:Bool}
inductive jk (K) (H:Hp):V->LM->Prop where
 | non:jk K H .non (.type "NoneType")
 | bl (x):jk K H (.bl x) (.type "bool")
 | int (i):jk K H (.int i) (.type "int")
 | str (x):jk K H (.str x) (.type "str")
 | flt (x):jk K H (.flt x) (.type "float")
 | lst (e:H a=some (.lst xs)):jk K H (.ref a) (.type "list")
 | frz (e:H a=some (.frz o (.lst xs))):jk K H (.ref a) (.type "list")
 | tup (e:H a=some (.tup xs)):jk K H (.ref a) (.type "tuple")
 | gB (e:H a=some (.frz o (.dK kvs))):jk K H (.ref a) (.type "dict")
 | dK (e:H a=some (.dK kvs)):jk K H (.ref a) (.type "dict")
 | dT (e:H a=some (.dT kvs)):jk K H (.ref a) (.type "dict")
 | ins (e:H a=some (.ins C dx fs)) (cl:Cls K C) (ha:PySem.W.findIn K (.ref C) "__class__" = some (some (.builtin "object.__class__")))
   (hn:PySem.W.specialIn K (.builtin "object.__class__") "__get__" = some (some (.builtin "getset_descriptor.__get__"))) (htk:PySem.W.takesIn K (.builtin "object.__class__")=some true)
   (hm:PySem.W.mroIn K C (.type "object")=some true):jk K H (.ref a) (.ref C)
theorem yp {x:V}{u t:LM} (I:Inv X pins σ H s) (rx:RelV x u) (ty:jk X.K H x t) (e:ND X.K t c=some b) (h:∀tk,Q (.bool b) { s with toks:=tk }) :
  wpAny (model X.prog X.w) A (call (.builtin "isinstance") [u,c]) Q E s:=by
 cases ty with
 | non=>cases (show u=N7 from rx);exact MZ PySem.W.kitx_none I.kIn Qq e (fun z=>nomatch z) h
 | bl y=>cases (show u=Ra y from rx);exact MZ PySem.W.kitx_bool I.kIn Qq e (fun z=>nomatch z) h
 | int i=>obtain⟨t,q⟩:=(show ∃t,u=Ol i t from rx);cases q;exact MZ PySem.W.kitx_int I.kIn Qq e (fun z=>nomatch z) h
 | str y=>obtain⟨t,q⟩:=(show ∃t,u=Rp y t from rx);cases q;exact MZ PySem.W.kitx_str I.kIn Qq e (fun z=>nomatch z) h
 | flt y=>obtain⟨t,q⟩:=(show ∃t,u=LM.float y t from rx);cases q;exact MZ PySem.W.kitx_float I.kIn Qq e (fun z=>nomatch z) h
 | @lst a xs ea=>
  cases (show u=OJ a from rx)
  obtain⟨_,_,n,_,h1⟩:=(show cL X.prog X.w H s.heap a (.lst xs) from I.hok a _ ea)
  exact MZ PySem.W.kitx_list I.kIn ⟨_,h1,rfl⟩ e (fun z=>nomatch z) h
 | @frz a ob xs ea=>
  cases (show u=OJ a from rx)
  obtain⟨_,_,_,n,_,h1⟩:=(show cL X.prog X.w H s.heap a (.frz ob (.lst xs)) from I.hok a _ ea)
  exact MZ PySem.W.kitx_list I.kIn ⟨_,h1,rfl⟩ e (fun z=>nomatch z) h
 | @tup a xs ea=>
  cases (show u=OJ a from rx)
  obtain⟨_,_,_,p⟩:=(show cL X.prog X.w H s.heap a (.tup xs) from I.hok a _ ea)
  obtain⟨o,h1,⟨h2,_⟩,_⟩:=p
  exact MZ PySem.W.kitx_tuple I.kIn ⟨o,h1,h2⟩ e (fun z=>nomatch z) h
 | @gB a ob kvs ea=>
  cases (show u=OJ a from rx)
  obtain⟨_,_,_,vs,_,p⟩:=(show cL X.prog X.w H s.heap a (.frz ob (.dK kvs)) from I.hok a _ ea)
  obtain⟨o,es,ep,h1,h2,_⟩:=p
  exact MZ P2 I.kIn ⟨o,h1,h2.1⟩ e (fun z=>nomatch z) h
 | @dK a kvs ea=>
  cases (show u=OJ a from rx)
  obtain⟨_,_,vs,_,p⟩:=(show cL X.prog X.w H s.heap a (.dK kvs) from I.hok a _ ea)
  obtain⟨o,es,ep,h1,h2,_⟩:=p
  exact MZ P2 I.kIn ⟨o,h1,h2.1⟩ e (fun z=>nomatch z) h
 | @dT a kvs ea=>
  cases (show u=OJ a from rx)
  obtain⟨_,_,xs,_,o,es,ep,h1,h2,_⟩:=(show cL X.prog X.w H s.heap a (.dT kvs) from I.hok a _ ea)
  exact MZ P2 I.kIn ⟨o,h1,h2.1⟩ e (fun z=>nomatch z) h
 | @ins a C dx fs ea cl ha hn htk hm=>
  cases (show u=OJ a from rx)
  obtain⟨mA,O,_⟩:=C4 I.hok ea
  obtain⟨od,J,_⟩:=O.look
  exact MZ (PySem.W.kitx_own (cl.get _) cl.hd ha hn htk hm) I.kIn J e (fun z=>nomatch z) h
end
structure eP (k) (A:MY):Prop where
 hd:A.handled=none
 dp:A.depth+3*k+5<recursionLimit
 un:A.units+16*k+200<cLine
 gd:A.guards=some []
theorem eP.mono (r:eP k A) (h:j<=k):eP j A:=⟨r.hd,by have:=r.dp;lia,by have:=r.un;lia,r.gd⟩
theorem eP.deeper (r:eP (k+1) A) (env):eP k (A.deeper env):=
 ⟨r.hd,by have:=r.dp;show A.depth+1+3*k+5<_;lia,by have:=r.un;show A.units+3+16*k+200<_;lia,r.gd⟩
theorem eP.depth (r:eP k A):A.depth<recursionLimit:=by have:=r.dp;lia
theorem eP.units (r:eP k A):A.units+64<cLine:=by have:=r.un;lia
noncomputable def Hk:TA:=fun _ H Q=>Q [] H
noncomputable def DM (ta:TE) (tr:TA):TA:=fun σ H Q=>ta σ H fun x H1=>tr σ H1 fun xs H2=>Q (x::xs) H2
section
variable {X:Cx}{e:Expr}{es:List Expr}{te:TE}{t:TA}{pos:Pos}
theorem qS:PA X [] Hk:=fun _ _ _ _ H Q I h=>Calls.spliced_nil ⟨[],H,I,.nil,h⟩
theorem jU (ha:PE X e te) (hr:PA X es t) (hs:starEach (e::es) X.env=(false,eval e X.env)::starEach es X.env:=by rfl):PA X (e::es) (DM te t):=by
 intro pos pins s σ H Q I h
 rw[hs]
 show wpAny _ _ (spliced ((false,eval e X.env)::backTo pos (starEach es X.env))) _ _ s
 refine PU (thn (ha pins s σ H _ I h) fun u s1 ⟨x,H1,I1,r1,q1⟩=>?_)
 exact thn (hr pos pins s1 σ H1 _ I1 q1) fun us s2 ⟨xs,H2,I2,r2,q2⟩=>⟨x::xs,H2,I2,.cons r1 r2,q2⟩
noncomputable def Kz (t:TA):TE:=fun σ H Q=>t σ H fun xs H1=>xs.length<=sizeLine/\∀p,H1 p=none->Q (.ref p) (upd H1 p (.tup xs))
noncomputable def J6 (t:TA):TE:=fun σ H Q=>t σ H fun xs H1=>xs.length<=sizeLine/\∀p,H1 p=none->Q (.ref p) (upd H1 p (.lst xs))
theorem FY {x1} (h:PA X es t):PE X (.Tuple es x1 pos) (Kz t):=by
 intro pins s σ H Q I hq
 refine wpAny_Tuple_spliced (thn (h pos pins s σ H _ I hq) fun us s1 ⟨xs,H1,I1,r,z,q⟩=>⟨by rw[<- r.length];exact z,?_⟩)
 have hf:H1 s1.heap.objs.size=none:=I1.hok.fresh (LH _)
 refine⟨.ref s1.heap.objs.size,upd H1 s1.heap.objs.size (.tup xs),I1.laid (t':=s1.toks) (fun b u e=>ox _ e) (LH _) ?_,rfl,q _ hf⟩
 exact⟨z,us,r,⟨_,LN _ rfl,⟨rfl,_,rfl⟩,rfl⟩⟩
theorem Fi (h:PA X es t):PE X (.List es pos) (J6 t):=by
 intro pins s σ H Q I hq
 refine wpAny_List_spliced (thn (h pos pins s σ H _ I hq) fun us s1 ⟨xs,H1,I1,r,z,q⟩=>⟨by rw[<- r.length];exact z,?_⟩)
 have hf:H1 s1.heap.objs.size=none:=I1.hok.fresh (LH _)
 refine⟨.ref s1.heap.objs.size,upd H1 s1.heap.objs.size (.lst xs),I1.laid (t':=s1.toks) (fun b u e=>ox _ e) (LH _) ?_,rfl,q _ hf⟩
 exact⟨z,us,0,r,LN _ rfl⟩
end
noncomputable abbrev Sp:=List V->Hp->VK->XK->Prop
noncomputable abbrev CXT:=List Env->Hp->LP->XK->LM->LP->Prop
structure yF (P) (w) (K) (mg) (base) (A:MY) (outer) (s:LP) (H:Hp):Prop where
 frames:A.frames=some outer
 mod:Mod K mg base
 bs:∀b o,base.get? b=some o->s.heap.get? b=some o/\H b=none
 bsz:base.objs.size<=s.heap.objs.size
 lh:s.heap.FunFrames base outer
 frf:∀b∈frs outer,H b=none
 hok:HOk P w H s.heap
 bare:Qh s.gens
noncomputable def CE (outer:List Env) (P:Mc) (w:MU) (H:Hp) (s:LP) (Q:VK) (u:LM) (s':LP):Prop:=
 ∃v H',s'.os=s.os/\Qh s'.gens/\Un (frs outer) [] H H' s.heap s'.heap/\HOk P w H' s'.heap/\RelV v u/\Q v H'
noncomputable def CR (CX:CXT) (outer:List Env) (P:Mc) (w:MU) (H:Hp) (s:LP) (Q:VK) (E:XK) (r:Result) (s':LP):Prop:=
 match r with
 | .ok (.ret u)=>CE outer P w H s Q u s'
 | .ok _=>False
 | .error e=>CX outer H s E e s'
structure dI (P) (w) (K) (mg) (base) (CX) (k) (f) (fd) (ps:List Str) (sp:Sp):Prop where
 len:∀vs H Q E,sp vs H Q E->vs.length=ps.length
 run:∀A outer s H args us vs Q E , eP k A->yF P w K mg base A outer s H->Q3 s fd args (ps.zip us)->Vals vs us->sp vs H Q E →
  codeAny (model P w) A (.call (.ref f) args) (CR CX outer P w H s Q E) s
theorem dI.mono {K:gV} (F:dI P w K mg base CX j f fd ps sp) (h:j<=k) :
  dI P w K mg base CX k f fd ps sp:=⟨F.len,fun A outer s H args us vs Q E hr=>F.run A outer s H args us vs Q E (hr.mono h)⟩
theorem dI.imp {K:gV} (F:dI P w K mg base CX k f fd ps sp)
  (h:∀vs H Q E,sp' vs H Q E->sp vs H Q E):dI P w K mg base CX k f fd ps sp':=
 ⟨fun vs H Q E q=>F.len vs H Q E (h _ _ _ _ q),fun A outer s H args us vs Q E hr he hb hv hs=>F.run A outer s H args us vs Q E hr he hb hv (h _ _ _ _ hs)⟩
section
variable {X:Cx}{pins:List (Addr × Obj)}{σ:St}{H:Hp}{s s':LP}
theorem Inv.Ji (I:Inv X pins σ H s):yF X.prog X.w X.K X.mg X.base X.A X.stack s H:=
 ⟨I.ok.frames,I.ok.mod,I.bs,L0 I.ok.bsz I.sz,I.stack,I.lS,I.hok,I.bare⟩
theorem Inv.after (I:Inv X pins σ H s) (h:CE X.stack X.prog X.w H s Q u s'):EP X pins σ Q u s':=by
 obtain⟨v,H',os,bare,un,hok,r,q⟩:=h
 obtain⟨hh,g,d,t,os'⟩:=s'
 obtain rfl:os'=s.os:=os
 exact⟨v,H',I.call (h':=hh) (g':=g) (d':=d) (t':=t) (ch:=[]) un hok bare (fun b z=>absurd z (by simp)),r,q⟩
end
noncomputable def G7 (sp:Sp) (dvs:List V) (E:XK) (t:TA):TE:=fun σ H Q=>t σ H fun vs H1=>sp (vs++dvs) H1 Q E
noncomputable def Binds (K:gV) (fd:Pf) (ps:List Str) (ds:List LM):Prop:=
 ∀s us , K.In s.heap->(us++ds).length=ps.length->Q3 s fd ⟨us,[]⟩ (ps.zip (us++ds))
theorem Binds.all {K:gV} (h:∀us:List LM,us.length=ps.length->bindArgs fd ⟨us,[]⟩=pure (ps.zip us)):Binds K fd ps []:=fun s us _ hl=>by
 rw[NF] at hl ⊢
 exact .of_eq (h us hl)
noncomputable def Passes (CX:CXT) (X:Cx) (E:XK):Prop:=∀pins (σ:St) H s e s' , Inv X pins σ H s->CX X.stack H s E e s'->X.xe e s'
section
variable {X:Cx}{CX:CXT}{k:Nat}{f C:Addr}{fd:Pf}{ps:List Str}{sp:Sp}{dvs:List V}{ds:List LM}{E:XK}{x m:Str}{p pos apos:Pos}{e o:Expr}{es:List Expr}{ta:TE}{t:TA}
theorem Ek {σ:St} (F:dI X.prog X.w X.K X.mg X.base CX k f fd ps sp) (hr:eP k X.A) (hb:Binds X.K fd ps ds) (hd:Vals dvs ds) (hx:Passes CX X E)
  (I:Inv X pins σ H s) (r:Vals vs us) (h:sp (vs++dvs) H Q E):wpAny (model X.prog X.w) X.A (call (.ref f) us) (EP X pins σ Q) X.xe s:=by
 have r2:Vals (vs++dvs) (us++ds):=r.append hd
 have hl:(us++ds).length=ps.length:=by rw[<- r2.length];exact F.len _ _ _ _ h
 refine QJ (Of (F.run X.A X.stack s H ⟨us,[]⟩ (us++ds) (vs++dvs) Q E hr I.Ji (hb s us I.kIn hl) r2 h) fun r s' hq=>?_)
 cases r with
 | error e=>exact hx pins σ H s e s' I hq
 | ok fl=>
  cases fl with
  | ret u=>exact I.after hq
  | next=>assumption
  | brk=>assumption
  | cont=>assumption
theorem BL (F:dI X.prog X.w X.K X.mg X.base CX k f fd ps sp) (hr:eP k X.A) (hg:Gl X x) (hm:X.mg x=some (.ref f)) (hk:M5 X.K (.ref f)=true) (hb:Binds X.K fd ps ds) (hd:Vals dvs ds) (hx:Passes CX X E)
  (ha:PA X (e::es) t) (hdb:(x == ("__debug__" : Str))=false:=by decide) (he:starEach (e::es) X.env=(false,eval e X.env)::starEach es X.env:=by rfl) (hpl:(backTo pos (starEach es X.env)).any (·.1)=false:=by rfl) :
  PE X (.Call (.Name x p) (e::es) [] pos) (G7 sp dvs E t):=by
 intro pins s σ H Q I h
 refine OW (xX I hg hm ?_ hdb)
 refine PV (h₀:=X.base) I.ok.mod.kin hk (thn (ha pos pins s σ H _ I h) fun us s1 ⟨vs,H1,I1,r,q⟩=>⟨I1.kIn,?_⟩) he hpl
 exact Ek F hr hb hd hx I1 r q
end
structure aF (N P:List Str) (sc:Pg):Prop where
 kind:sc.kind=.function
 co:sc.isCoroutine=false
 gen:sc.isGenerator=false
 nd:N.Nodup
 pre:N.take P.length=P
 par:∀x∈P,sc.names.lookup x=some .local\/sc.names.lookup x=some .cell
 EH:∀y∈sc.names,y.2≠.free
theorem oM {kindOf:Str->Option NW}{x:Str}:∀{binds:List (Str × LM)}{m:Str->Option LM},(∀v,(x,v)∉binds)->bindL kindOf binds m x=m x
 | [],_,_=>rfl
 | (n,v)::r,m,h=>by
  unfold bindL
  rw[oM fun w hw=>h w (td _ hw)]
  split
  ·grind
  ·rfl
theorem o9 {kindOf:Str->Option NW}:∀{binds:List (Str × LM)}{m:Str->Option LM},(∀v,(x,v)∉binds)->bindC kindOf binds m x=m x
 | [],_,_=>rfl
 | (n,v)::r,m,h=>by
  unfold bindC
  rw[o9 fun w hw=>h w (td _ hw)]
  split
  ·rfl
  grind
theorem pq {kindOf:Str->Option NW}{x:Str}{v:LM}:∀{P:List Str}{vs:List LM}{i:Nat}{m:Str->Option LM},P.Nodup->P[i]?=some x->vs[i]?=some v->kindOf x=some .local →
  bindL kindOf (P.zip vs) m x=some v
 | [],_,_,_,_,h,_,_=>by simp at h
 | _::_,[],_,_,_,_,h,_=>by simp at h
 | p::P,w::vs,0,m,nd,h1,h2,hk=>by
  simp at h1 h2;subst h1;subst h2
  show bindL kindOf ((p,w)::P.zip vs) m p=_
  unfold bindL
  rw[oM fun v hv=>(N9.mp nd).1 (PC hv).1,if_pos hk]
  simp
 | p::P,w::vs,i+1,m,nd,h1,h2,hk=>by
  show bindL kindOf ((p,w)::P.zip vs) m x=_
  unfold bindL
  exact pq (i:=i) (N9.mp nd).2 (by simp_all) (by simp_all) hk
theorem oJ {kindOf:Str->Option NW}{x:Str}{v:LM}:∀{P:List Str}{vs:List LM}{i:Nat}{m:Str->Option LM},P.Nodup->P[i]?=some x->vs[i]?=some v->kindOf x≠some .local →
  bindC kindOf (P.zip vs) m x=some v
 | [],_,_,_,_,h,_,_=>by simp at h
 | _::_,[],_,_,_,_,h,_=>by simp at h
 | p::P,w::vs,0,m,nd,h1,h2,hk=>by
  simp at h1 h2;subst h1;subst h2
  show bindC kindOf ((p,w)::P.zip vs) m p=_
  unfold bindC
  rw[o9 fun v hv=>(N9.mp nd).1 (PC hv).1,if_neg hk]
  simp
 | p::P,w::vs,i+1,m,nd,h1,h2,hk=>by
  show bindC kindOf ((p,w)::P.zip vs) m x=_
  unfold bindC
  exact oJ (i:=i) (N9.mp nd).2 (by simp_all) (by simp_all) hk
noncomputable def start (N:List Str) (vs:List V):St:=vs.map some++Mq (N.length - vs.length) none
noncomputable def jj (CX:CXT) (P:Mc) (w:MU) (K:gV) (mg:Str->Option LM) (base:Heap) (N:List Str) (qual:Str) (scope:Pg) (f:Addr) (cd:LM) (A:MY) (outer:List Env) (s:LP) (H:Hp) (E:XK):Cx where
 prog:=P
 w:=w
 K:=K
 mg:=mg
 base:=base
 A:=A.deeper (envOfC qual scope s.heap.objs.size f cd)
 N:=N
 au:=s
 av:=H
 env:=envOfC qual scope s.heap.objs.size f cd
 outer:=outer
 stack:=envOfC qual scope s.heap.objs.size f cd::outer
 ex:=[]
 calm:=true
 fn:=fun _=>true
 pn:=[]
 xe:=fun e s'=>wpAny (model P w) (A.deeper (envOfC qual scope s.heap.objs.size f cd)) (leaving (envOfC qual scope s.heap.objs.size f cd) e) (fun _ s''=>CX outer H s E e s'') (fun e' s''=>CX outer H s E e' s'') s'
theorem rG {sc:Pg} (h:sc.names.lookup x=some .cell):∃c,(cellsFrom n sc.names []).lookup x=some c:=by
 have q:=Ov sc.names n [] (.inl h)
 exact N_.mp q
theorem pE {K:gV}
  (S:aF N ps scope) (hd:A.handled=none) (e0:yF P w K mg base A outer s H) (hl:vs.length=ps.length) (r:Vals vs us)
  (x:InCallC s s.heap.objs.size (bindL (envOfC qual scope s.heap.objs.size f cd).kindOf (ps.zip us) fun _=>none) (cellsFrom (s.heap.objs.size+1) scope.names []) (bindC (envOfC qual scope s.heap.objs.size f cd).kindOf (ps.zip us) fun _=>none) s1) :
  Inv (jj CX P w K mg base N qual scope f cd A outer s H E) [] (start N vs) H s1:=by
 have hpl:ps.length<=N.length:=by have:=congrArg List.length S.pre;grind
 obtain⟨h1,tk,rfl,hk⟩:=x.done
 have noA:∀b:Addr,b∉(jj CX P w K mg base N qual scope f cd A outer s H E).ex:=fun b z=>absurd (show b∈([]:List Addr) from z) (by simp)
 refine⟨⟨e0.mod,S.kind,rfl,rfl,LH _,fun y z c h1 h2=>?_,fun y hy=>?_,fun y c _ h=>?_,fun _=>hd,MY.frames_deeper e0.frames,.inr ⟨rfl,rfl⟩,fun b z=>absurd z (noA b),e0.bs,e0.bsz,fun b _ _=>noA b,fun b z=>absurd z (noA b),e0.lh,e0.frf⟩,
  rfl,e0.bare,Un.kept hk,⟨_,x.toInCall.ns,fun i y v h1 h2 h3=>?_⟩,fun y c h=>⟨_,x.cell y c h⟩,e0.hok.fresh (LH _),fun y c h=>?_,fun p hp=>absurd (show p∈([]:List (Addr × Obj)) from hp) (by simp),e0.hok.kept hk,?_⟩
 ·exact name_of_addr x.apart (Oh h1) (Oh h2)
 ·have hy:scope.names.lookup y=some .cell\/scope.names.lookup y=some .free:=hy
  rcases hy with hy | hy
  ·exact rG hy
  ·exact absurd rfl (S.EH _ (Oh hy))
 ·exact Qi (x.above y c (Oh h))
 ·have hi:i<vs.length:=by
   unfold start at h2
   grind
  have ha:vs[i]?=some v:=by
   unfold start at h2
   grind
  obtain⟨u,hu,rv⟩:=r.get ha
  have hp:ps[i]?=some y:=by
   rw[<- S.pre,List.getElem?_take_of_lt (by lia)];exact h1
  have ndP:ps.Nodup:=by rw[<- S.pre];exact S.nd.sublist (O9 _ _)
  refine⟨u,rv,?_⟩
  rcases S.par y (Ms hp) with k | k
  ·exact .inl ⟨k,pq ndP hp hu k⟩
  ·obtain⟨c,e⟩:=rG (n:=s.heap.objs.size+1) k
   refine .inr ⟨.inl k,c,e,?_⟩
   have q:=x.cell y c e
   rw[oJ ndP hp hu (by show scope.names.lookup y≠_;simp_all)] at q
   exact q
 ·exact e0.hok.fresh (Qi (x.above y c (Oh h)))
 ·unfold start
  show _=N.length
  simp_all
theorem Jf {CX:CXT}{P:Mc}{w:MU}{K:gV}{mg:Str->Option LM}{base:Heap}{k:Nat}{f:Addr}{name qual:Str}{params:Qx}{body:List Stmt}{scope:Pg}{dV kV doc pm cdv ct oc:LM}{an od:Option Addr}
  {osl:Array (Option LM)} {N ps:List Str} {sp:Sp} (lk:K.lookup f=some ⟨oc,od,.func (M0 name qual params body scope dV kV doc pm an cdv ct),osl⟩) (hcd:OK K cdv qual=true) (S:aF N ps scope)
  (len:∀vs H Q E,sp vs H Q E->vs.length=ps.length)
  (hbody:∀(A:MY) (outer:List Env) (s:LP) (H:Hp) (vs:List V) (Q:VK) (E:XK),eP k (A.deeper (envOfC qual scope s.heap.objs.size f cdv))->sp vs H Q E →
   ∃t,PSs (jj CX P w K mg base N qual scope f cdv A outer s H E) body t/\t { nx:=fun _ H'=>Q .non H',rt:=Q } (start N vs) H) :
  dI P w K mg base CX (k+1) f (M0 name qual params body scope dV kV doc pm an cdv ct) ps sp:=by
 refine⟨len,fun A outer s H args us vs Q E hr e0 hb r hsp=>?_⟩
 have hl:=len _ _ _ _ hsp
 have KX:K.In s.heap:=e0.mod.kin.keeps fun b o e=>(e0.bs b o e).1
 have lim:s.heap.NoLimit:=e0.mod.nolimit.keeps fun b o e=>(e0.bs b o e).1
 have hkind:∀y∈ps.zip us,scope.names.lookup y.1=some .local\/(scope.names.lookup y.1=some .cell/\((cellsFrom (s.heap.objs.size+1) scope.names []).lookup y.1).isSome=true):=fun⟨n,v⟩ hy=>by
  rcases S.par n (PC hy).1 with q | q
  ·grind
  ·exact .inr ⟨q,Ov _ _ _ (.inl q)⟩
 refine codeAny_call_function hr.depth (KX _ _ lk) rfl S.co S.gen rfl (PySem.W.codeRec_of KX hcd) (hb _ _ _ _ ?_)
 refine wpAny_newFunctionEnv_cells S.kind hkind fun env he s1 x=>?_
 subst he
 refine⟨lim.keeps x.toInCall.keep,codeAny_func ?_⟩
 obtain⟨t,ht,hq⟩:=hbody A outer s H vs Q E (hr.deeper _) hsp
 have I:Inv (jj CX P w K mg base N qual scope f cdv A outer s H E) [] (start N vs) H s1:=pE S hr.hd e0 hl r x
 refine Nw (ht [] s1 (start N vs) H _ I hq) (fun fl s' hs=>?_) fun e s' hs=>hs
 have fin:∀{σ':St} {H':Hp} {v:V} {u:LM},Inv (jj CX P w K mg base N qual scope f cdv A outer s H E) [] σ' H' s'->RelV v u->Q v H'->CE outer P w H s Q u s':=
  fun{σ' H' v u} J rv q=>⟨v,H',J.os,J.bare,J.base,J.hok,rv,q⟩
 cases fl with
 | ret u=>
  obtain⟨v,σ',H',J,rv,q⟩:=hs
  exact fin J rv q
 | next=>
  obtain⟨σ',H',J,q⟩:=hs
  exact fin (v:=V.non) (u:=N7) J rfl q
 | brk=>
  obtain⟨_,_,_,q⟩:=hs
  simp_all
 | cont=>
  obtain⟨_,_,_,q⟩:=hs
  simp_all
section
variable {X:Cx}{x:Str}{p pos:Pos}{e:Expr}{es:List Expr}{t:TA}{id T:String}{r:List V->Hp->VK->Prop}
noncomputable def tCB (r:List V->Hp->VK->Prop) (t:TA):TE:=fun σ H Q=>t σ H fun vs H1=>r vs H1 Q
theorem sf (hc:bJ X (.builtin id) r) (hg:Gl X x) (hm:X.mg x=none) (hv:bootBuiltins x=some (.builtin id)) (ha:PA X (e::es) t) (hn:x≠"__name__" := by decide) (hdb:(x == ("__debug__" : Str))=false:=by decide)
  (he:starEach (e::es) X.env=(false,eval e X.env)::starEach es X.env:=by rfl) (hpl:(backTo pos (starEach es X.env)).any (·.1)=false:=by rfl):PE X (.Call (.Name x p) (e::es) [] pos) (tCB r t):=by
 intro pins s σ H Q I h
 refine OW (jh I hg hm hv ?_ hn hdb)
 exact PyProof.Rows.callWith_builtin1 (thn (ha pos pins s σ H _ I h) fun us s1 ⟨vs,H1,I1,r1,q1⟩=>hc pins s1 σ H1 vs us Q I1 r1 q1) he hpl
theorem j9 (hc:bJ X (.type T) r) (hg:Gl X x) (hm:X.mg x=none) (hv:bootBuiltins x=some (.type T)) (ha:PA X (e::es) t) (hn:x≠"__name__" := by decide) (hdb:(x == ("__debug__" : Str))=false:=by decide)
  (he:starEach (e::es) X.env=(false,eval e X.env)::starEach es X.env:=by rfl) (hpl:(backTo pos (starEach es X.env)).any (·.1)=false:=by rfl):PE X (.Call (.Name x p) (e::es) [] pos) (tCB r t):=by
 intro pins s σ H Q I h
 refine OW (jh I hg hm hv ?_ hn hdb)
 exact Nr (thn (ha pos pins s σ H _ I h) fun us s1 ⟨vs,H1,I1,r1,q1⟩=>hc pins s1 σ H1 vs us Q I1 r1 q1) he hpl
end
end L2
namespace HT
open PySem PyProof.Rows
section
variable {prog:Mc}{w:MU}{A:MY}{E:LM->LP->Prop}{s:LP}
theorem DE (ht:IsTup s.heap t vs.toArray) (hb:IsTup s.heap b ws.toArray) (hv:vs≠[])
  (h1:ws=[]->Q (.ref t) s) (h2:ws≠[]->Q (.ref s.heap.objs.size) { s with heap:=s.heap.push { cls:=.type "tuple", data:=.seq (vs++ws).toArray } })
  (hsz:vs.length+ws.length<=sizeLine):wpAny (model prog w) A (binaryOp .Add (.ref t) (.ref b)) Q E s:=by
 obtain⟨⟨cls,dd,data,sl⟩,ho,hc,n,hd⟩:=id ht
 obtain⟨⟨cls2,dd2,data2,sl2⟩,ho2,hc2,n2,hd2⟩:=id hb
 simp only at hc hd hc2 hd2
 subst hc hd hc2 hd2
 have e:vs.toArray++ws.toArray=(vs++ws).toArray:=by simp
 by_cases hw:ws=[]
 ·exact QM ⟨_,ho,rfl⟩ ⟨_,ho2,rfl⟩ Qb Qy O2 OX (OS _ _)
   (tuple_addW1 t b vs.toArray ws.toArray n n2 dd dd2 sl sl2 (by simp_all) (by simp[hw])) ⟨ho,ho2,h1 hw⟩
 ·refine QM ⟨_,ho,rfl⟩ ⟨_,ho2,rfl⟩ Qb Qy O2 OX (OS _ _)
   (tuple_addW2 t b vs.toArray ws.toArray n n2 dd dd2 sl sl2 (by simp_all) (by simp_all) (by omega)) ⟨ho,ho2,?_⟩
  simp_all
noncomputable def sIx (n d:Nat):Option Int->Nat
 | none=>d
 | some v=>if v<0 then (v+(n:Int)).toNat else min v.toNat n
theorem ny (n d):sIx n d none=d:=rfl
theorem wI (n d k:Nat):sIx n d (some (k:Int))=min k n:=by
 rfl
theorem Gm (n d) (hd:d<=n) (o):sIx n d o<=n:=by
 cases o with
 | none=>exact hd
 | some v=>
  show(if v<0 then (v+(n:Int)).toNat else min v.toNat n)<=n
  grind
theorem wF (v) (n d:Nat):(if v<0 then max (v+(n:Int)) 0 else min v (n:Int))=((sIx n d (some v):Nat):Int):=by
 show(if v<0 then max (v+(n:Int)) 0 else min v (n:Int))=(((if v<0 then (v+(n:Int)).toNat else min v.toNat n):Nat):Int)
 grind
theorem vy (lo hi) (n:Nat):OL lo hi 1 (n:Int)=(((sIx n 0 lo:Nat):Int),((sIx n n hi:Nat):Int)):=by
 have h1:¬ ((1:Int)<0):=by lia
 unfold OL
 simp only[h1,if_false]
 refine Prod.ext ?_ ?_
 ·cases lo with
  | none=>rfl
  | some v=>exact wF v n 0
 ·cases hi with
  | none=>rfl
  | some v=>exact wF v n n
theorem vA (i j:Nat):N4 (i:Int) (j:Int) 1=j - i:=by
 unfold N4
 lia
theorem l_ (p:Qz v o) (h:Q o s):wpAny (model prog w) A (NC.Slice.slicePartIndex v) Q E s:=by
 cases p with
 | none=>exact slicePart_none h
 | int i t=>exact slicePart_int h
theorem gA {sl:Addr}{vl vu:LM}{lo hi:Option Int}{n:Nat}{Q:Int × Int × Nat->LP->Prop} (hs:s.heap.IsSliceOf sl vl vu .none) (pl:Qz vl lo) (pu:Qz vu hi)
  (h:Q (((sIx n 0 lo:Nat):Int),1,sIx n n hi - sIx n 0 lo) s):wpAny (model prog w) A (NC.Slice.sliceApplied (.ref sl) (pure (n:Int))) Q E s:=by
 obtain⟨os,hos,hcs,hds⟩:=id hs
 unfold NC.Slice.sliceApplied NC.Slice.sliceFields
 refine k3 (k3 (Nt hos hds (x:=vl) rfl (k3 (Nt hos hds (x:=vu) rfl (k3 (Nt hos hds (x:=.none) rfl (LJ ?_)))))))
 refine k3 (slicePart_none ?_)
 show wpAny _ _ (if ((1:Int) == 0)=true then _ else _) _ _ s
 rw[if_neg (by decide)]
 refine k3 (l_ pl (k3 (l_ pu (k3 (LJ ?_)))))
 show wpAny _ _ (match OL lo hi 1 (n:Int) with | (lo,hi)=>pure (lo,(1:Int),N4 lo hi 1)) _ _ s
 rw[vy lo hi n]
 show wpAny _ _ (pure (((sIx n 0 lo:Nat):Int),(1:Int),N4 ((sIx n 0 lo:Nat):Int) ((sIx n n hi:Nat):Int) 1)) _ _ s
 rw[vA]
 exact LJ h
theorem Af (xs:Array LM) (i k:Nat):((LK k).filterMap fun(m:Nat)=>xs[((i:Int)+(m:Int)*1).toNat]?).toArray=((xs.toList.drop i).take k).toArray:=by
 have e:(fun(m:Nat)=>xs[((i:Int)+(m:Int)*1).toNat]?)=fun m=>xs[i+m]?:=by
  grind
 rw[e]
 have:=pick_run xs i k
 rw[List.filterMap_map] at this
 have e2:((fun x=>xs[x]?) ∘ fun x=>i+x)=fun m=>xs[i+m]?:=rfl
 simp_all
theorem jZ {lo hi:Option Int} (ht:IsTup s.heap t items) (hs:s.heap.IsSliceOf sl vl vu .none) (pl:Qz vl lo) (pu:Qz vu hi)
  (hw:¬ (sIx items.size 0 lo=0/\sIx items.size items.size hi=items.size))
  (h:Q (.ref s.heap.objs.size) { s with heap:=s.heap.push { cls:=.type "tuple", data:=.seq ((items.toList.drop (sIx items.size 0 lo)).take (sIx items.size items.size hi - sIx items.size 0 lo)).toArray } })
  (hsz:items.size<=sizeLine):wpAny (model prog w) A (getItem (.ref t) (.ref sl)) Q E s:=by
 have htake:sizeOk (.seq ((items.toList.drop (sIx items.size 0 lo)).take (sIx items.size items.size hi - sIx items.size 0 lo)).toArray):=by
  show((items.toList.drop (sIx items.size 0 lo)).take (sIx items.size items.size hi - sIx items.size 0 lo)).toArray.size<=sizeLine
  grind
 have hj:sIx items.size items.size hi<=items.size:=Gm _ _ (LH _) hi
 obtain⟨os,hos,hcs,hds⟩:=id hs
 have hTs:s.TypeIs (.ref sl) "slice" := ⟨os,hos,hcs⟩
 unfold getItem
 try with_reducible refine NO ?_
 first | refine k3 (LJ ?_) | skip
 refine k3 (wpAny_sequenceKey ht.typeIs (by decide) ?_)
 refine k3 (Nu (name:=Qf "__getitem__") ht.typeIs MP
  (Ny MP ht.typeIs entry_tuple_getitem ?_ (args_tuple_getitem _ _)))
 show wpAny _ _ (NC.Tuple.tupleItemsOf (.ref t) >>= _) _ _ s
 refine k3 (tupleItemsOf_ ht ?_)
 refine k3 (QN hTs ?_)
 rw[if_pos (by decide)]
 refine k3 (gA hs pl pu ?_)
 have hno:¬ ((((sIx items.size 0 lo:Nat):Int) == 0&&(1:Int) == 1&&(sIx items.size items.size hi - sIx items.size 0 lo) == items.size)=true):=by
  simp_all
 show wpAny _ _ (if (((sIx items.size 0 lo:Nat):Int) == 0&&(1:Int) == 1&&(sIx items.size items.size hi - sIx items.size 0 lo) == items.size)=true then _ else _) _ _ s
 rw[if_neg hno,Af]
 first
  | exact k3 (m:=Oa _) (Nl (LJ ⟨_,rfl,LJ h⟩) htake)
  | exact k3 (m:=Oa _) (Nl (k3 (LJ (LJ ⟨_,rfl,LJ h⟩))) htake)
  | exact k3 (k3 (m:=Oa _) (Nl (LJ (LJ ⟨_,rfl,LJ h⟩)) htake))
  | exact k3 (k3 (m:=Oa _) (Nl (LJ ⟨_,rfl,LJ h⟩) htake))
end
end HT
namespace L2
open PySem PySem.Spec PyProof.Rows
noncomputable abbrev TO:=St->Hp->(Option Int->Hp->Prop)->Prop
noncomputable def PO (X:Cx) (e:Option Expr) (t:TO):Prop:=
 ∀pins s (σ:St) H Q , Inv X pins σ H s->t σ H Q →
  wpAny (model X.prog X.w) X.A (evalPart e X.env) (fun u s'=>∃o H',Inv X pins σ H' s'/\Qz u o/\Q o H') X.xe s
noncomputable def CL:TO:=fun _ H Q=>Q none H
noncomputable def Hd (t:TE):TO:=fun σ H Q=>t σ H fun x H1=>∃i,x=.int i/\Q (some i) H1
theorem intsAre_of:∀{us:List LM},Vals (ns.map V.int) us->Oi us ns:=by
 induction ns with
 | nil=>intro us r;rw[NS] at r;cases r;exact .nil
 | cons n ns ih=>
  intro us r
  rw[LW] at r
  cases r with
  | cons r1 r2=>
   obtain⟨t,e⟩:=r1
   subst e
   exact .cons n t (ih r2)
section
variable {X:Cx}{e:Expr}{te:TE}{lo hi:Option Expr}{tl th:TO}{pos p2:Pos}
theorem C9:PO X none CL:=by
 intro pins s σ H Q I h
 rw[evalPart_none]
 exact LJ ⟨none,H,I,.none,h⟩
theorem DH (h:PE X e te):PO X (some e) (Hd te):=by
 intro pins s σ H Q I hw
 rw[evalPart_some]
 refine thn (h pins s σ H _ I hw) fun u s1 ⟨x,H1,I1,r1,q1⟩=>?_
 obtain⟨i,rfl,q⟩:=q1
 obtain⟨t,rfl⟩:=r1
 exact⟨some i,H1,I1,.int i t,q⟩
noncomputable def SlR (X:Cx) (r:V->Option Int->Option Int->Hp->VK->Prop):Prop:=
 ∀pins s (σ:St) H x v vl vu lo hi sl Q , Inv X pins σ H s->RelV x v->s.heap.IsSliceOf sl vl vu .none->Qz vl lo->Qz vu hi->r x lo hi H Q →
  ∃T id,typeLookup (.type T) "__getitem__" = pure (some (.builtin id))/\s.TypeIs v T/\wpAny (model X.prog X.w) X.A (getItem v (.ref sl)) (EP X pins σ Q) X.xe s
theorem SlR.or (h:SlR X r) (h':SlR X r'):SlR X (fun x lo hi H Q=>r x lo hi H Q\/r' x lo hi H Q):=by
 intro pins s σ H x v vl vu lo hi sl Q I rx hs pl pu q
 rcases q with q | q
 ·exact h pins s σ H x v vl vu lo hi sl Q I rx hs pl pu q
 ·exact h' pins s σ H x v vl vu lo hi sl Q I rx hs pl pu q
noncomputable def tSl (r:V->Option Int->Option Int->Hp->VK->Prop) (te:TE) (tl th:TO):TE:=fun σ H Q=>te σ H fun x H1=>tl σ H1 fun l H2=>th σ H2 fun u H3=>r x l u H3 Q
theorem Ba {r:V->Option Int->Option Int->Hp->VK->Prop} (hr:SlR X r) (he:PE X e te) (hl:PO X lo tl) (hu:PO X hi th):PE X (.Subscript e (.Slice lo hi none p2) pos) (tSl r te tl th):=by
 intro pins s σ H Q I h
 refine Subscript_ (thn (he pins s σ H _ I h) fun v s1 ⟨x,H1,I1,r1,q1⟩=>?_)
 refine wpAny_Slice (thn (hl pins s1 σ H1 _ I1 q1) fun vl s2 ⟨l,H2,I2,pl,q2⟩=>thn (hu pins s2 σ H2 _ I2 q2) fun vu s3 ⟨u,H3,I3,pu,q3⟩=>?_)
 rw[evalPart_none]
 refine LJ ?_
 have I4:Inv X pins σ H3 { s3 with heap:=s3.heap.push { cls:=.type "slice", data:=.fields #[vl,vu,.none] } }:=I3.kept (t':=s3.toks) fun b ob q=>ox _ q
 obtain⟨T,id,hT,ht,hg⟩:=hr pins { s3 with heap:=s3.heap.push { cls:=.type "slice", data:=.fields #[vl,vu,.none] } } σ H3 x v vl vu l u s3.heap.objs.size Q I4 r1 (Heap.IsSliceOf.new ..) pl pu q3
 show wpAny (model X.prog X.w) X.A (subscriptTail e (.Slice lo hi none p2) v (.ref s3.heap.objs.size)) (EP X pins σ Q) X.xe { s3 with heap:=s3.heap.push { cls:=.type "slice", data:=.fields #[vl,vu,.none] } }
 exact tail_any (ops:=[.ref s3.heap.objs.size,v]) ht hT hg (by rfl)
noncomputable def ou (xs:List V) (lo hi:Option Int):List V:=(xs.drop (HT.sIx xs.length 0 lo)).take (HT.sIx xs.length xs.length hi - HT.sIx xs.length 0 lo)
theorem k4 (xs) (lo hi):(ou xs lo hi).length<=xs.length:=by
 unfold ou
 grind
noncomputable def K0 (K:gV):V->Option Int->Option Int->Hp->VK->Prop:=fun x lo hi H Q=>∃a xs,x=.ref a/\SqT K H a xs ∧
 ¬ (HT.sIx xs.length 0 lo=0/\HT.sIx xs.length xs.length hi=xs.length)/\∀p,H p=none->Q (.ref p) (upd H p (.tup (ou xs lo hi)))
theorem Fg:SlR X (K0 X.K):=by
 intro pins s σ H x v vl vu lo hi sl Q I rx hs pl pu h
 obtain⟨a,xs,rfl,hx,hw,q⟩:=h
 cases rx
 obtain⟨its,r,ht,hz⟩:=I.tuple hx
 have hlen:its.toArray.size=xs.length:=by rw[Mb];exact r.length.symm
 refine⟨"tuple", _,MP.lookup,ht.typeIs,?_⟩
 refine HT.jZ ht hs pl pu (by simp_all) ?_ (by lia)
 rw[hlen]
 refine⟨.ref s.heap.objs.size,_,I.laid (t':=s.toks) (o:=.tup (ou xs lo hi)) (fun b ob q=>ox _ q) (LH _) ?_,rfl,q _ (I.hok.fresh (LH _))⟩
 exact⟨L0 (k4 xs lo hi) hz,_,(r.drop (HT.sIx xs.length 0 lo)).take (HT.sIx xs.length xs.length hi - HT.sIx xs.length 0 lo),kx.new _ _⟩
noncomputable def DL (K:gV):R2:=fun x y H Q=>∃a b xs ys,x=.ref a/\y=.ref b/\SqT K H a xs/\SqT K H b ys/\xs≠[]/\xs.length+ys.length<=sizeLine ∧
 (ys=[]->Q (.ref a) H)/\(ys≠[]->∀p,H p=none->Q (.ref p) (upd H p (.tup (xs++ys))))
theorem Vals.pW (r:Vals xs us):us=[]↔xs=[]:=by
 cases r with
 | nil=>simp
 | cons _ _=>simp
theorem B_:OpR X (binaryOp .Add) (DL X.K):=by
 intro pins s σ H x y v u Q I rx ry h
 obtain⟨a,b,xs,ys,rfl,rfl,ha,hb,hx,hz,q1,q2⟩:=h
 cases rx
 cases ry
 obtain⟨its,r1,p1,_⟩:=I.tuple ha
 obtain⟨its2,r2,p2,_⟩:=I.tuple hb
 refine HT.DE p1 p2 (fun z=>hx (r1.pW.mp z)) (fun z=>⟨.ref a,H,I,rfl,q1 (r2.pW.mp z)⟩) (fun z=>?_) (by rw[<- r1.length,<- r2.length];exact hz)
 refine⟨.ref s.heap.objs.size,_,I.laid (t':=s.toks) (o:=.tup (xs++ys)) (fun b ob q=>ox _ q) (LH _) ?_,rfl,q2 (fun w=>z (r2.pW.mpr w)) _ (I.hok.fresh (LH _))⟩
 exact⟨by simp_all,_,r1.append r2,kx.new _ _⟩
end
noncomputable def ixN (n:Nat) (i:Int):Option Nat:=if 0<=i then (if i<n then some i.toNat else none) else if -(n:Int)<=i then some (i+n).toNat else none
noncomputable def atI {α:Type} (xs:List α) (i:Int):Option α:=(ixN xs.length i).bind fun j=>xs[j]?
theorem xY (h:ixN n i=some j):seqIndex? i n=some j/\j<n/\-(n:Int)<=i/\i<n:=by
 unfold ixN at h
 by_cases h0:0<=i
 ·rw[if_pos h0] at h
  by_cases h1:i<n
  ·rw[if_pos h1] at h
   have e:i.toNat=j:=Nq h
   exact⟨by rw[Q4 h0 h1,e],by lia,by lia,h1⟩
  simp_all
 ·rw[if_neg h0] at h
  by_cases h1:-(n:Int)<=i
  ·rw[if_pos h1] at h
   have e:(i+n).toNat=j:=Nq h
   exact⟨by rw[QO (by lia) h1,e],by lia,h1,by lia⟩
  simp_all
theorem pR (h:atI xs i=some v):∃j,seqIndex? i xs.length=some j/\xs[j]?=some v/\j<xs.length/\-(xs.length:Int)<=i/\i<xs.length:=by
 unfold atI at h
 cases e:ixN xs.length i with
 | none=>simp_all
 | some j=>
  rw[e] at h
  obtain⟨h1,h2,h3,h4⟩:=xY e
  simp_all
theorem CJ {j:Nat}{v:α} (h:xs[j]?=some v):atI xs (j:Int)=some v:=by
 have hj:j<xs.length:=(Mu.mp h).1
 have e:ixN xs.length (j:Int)=some j:=by
  unfold ixN
  simp_all
 unfold atI;simp_all
noncomputable def wu (b:Expr):Prop:=∀o i,subscripted b false o i=operate [o,i] (getItem o i)
noncomputable def IxR (X:Cx) (r:R2):Prop:=
 ∀value slice pins s (σ:St) H x y v u Q , Inv X pins σ H s->RelV x v->RelV y u->r x y H Q →
  subscripted slice false v u=operate [v,u] (getItem v u)->wpAny (model X.prog X.w) X.A (subscriptTail value slice v u) (EP X pins σ Q) X.xe s
noncomputable def MtR (X:Cx) (id:String) (r:V->List V->Hp->VK->Prop):Prop:=
 ∀pins s (σ:St) H x xs v us Q , Inv X pins σ H s->RelV x v->Vals xs us->r x xs H Q →
  wpAny (model X.prog X.w) X.A (call (.builtin id) (v::us)) (EP X pins σ Q) X.xe s
section
variable {X:Cx}{a b:Expr}{ta tb:TE}{pos:Pos}
theorem IxR.or (h:IxR X r) (h':IxR X r'):IxR X (fun x y H Q=>r x y H Q\/r' x y H Q):=by
 intro value slice pins s σ H x y v u Q I rx ry q hs
 rcases q with q | q
 ·exact h value slice pins s σ H x y v u Q I rx ry q hs
 ·exact h' value slice pins s σ H x y v u Q I rx ry q hs
theorem GW (hr:IxR X r) (ha:PE X a ta) (hb:PE X b tb) (hs:wu b):PE X (.Subscript a b pos) (tOp r ta tb):=by
 intro pins s σ H Q I h
 exact Subscript_ (Fs ha hb I h fun v u s2 x y H2 I2 rx ry q=>hr a b pins s2 σ H2 x y v u Q I2 rx ry q (hs _ _))
noncomputable def Je (K:gV):R2:=fun x y H Q=>∃p xs i v,x=.ref p/\y=.int i/\SqL K H p xs/\atI xs i=some v/\Q v H
noncomputable def IK (K:gV):R2:=fun x y H Q=>∃p xs i v,x=.ref p/\y=.int i/\SqT K H p xs/\atI xs i=some v/\Q v H
noncomputable def HJ:R2:=fun x y H Q=>∃z i c,x=.str z/\y=.int i/\z.length<=sizeLine/\atI z.cps.toList i=some c/\Q (.str ⟨#[c]⟩) H
theorem Cg:IxR X (Je X.K):=by
 intro value slice pins s σ H x y v u Q I rx ry h hs
 obtain⟨p,xs,i,z,rfl,rfl,hq,he,q⟩:=h
 cases rx
 obtain⟨t,rfl⟩:=ry
 obtain⟨its,r,pl,hz⟩:=I.list hq
 obtain⟨j,h1,h2,h3,h4,h5⟩:=pR he
 obtain⟨w,ew,rw'⟩:=r.get h2
 have hl:=r.length
 have hn:=jn
 have fin:EP X pins σ Q w s:=⟨z,H,I,rw',q⟩
 by_cases h0:0<=i
 ·have hj:i.toNat=j:=by
   rw[Q4 h0 h5] at h1
   simp_all
  exact item_listR pl.isList h0 (by lia) (by simp_all) fin hs
 ·have hj:(i+(its.toArray.size:Int)).toNat=j:=by
   rw[QO (by lia) h4] at h1
   simp_all
  exact subscriptTail_builtinR (x:=w) pl.isList.typeIs slot_list_getitem.lookup
   (wpAny_getItem_list_neg (Q:=fun r s'=>r=w/\EP X pins σ Q r s') pl.isList (by lia) (by simp_all) (by lia) (by simp_all) ⟨rfl,fin⟩) hs
theorem GI:IxR X (IK X.K):=by
 intro value slice pins s σ H x y v u Q I rx ry h hs
 obtain⟨p,xs,i,z,rfl,rfl,hq,he,q⟩:=h
 cases rx
 obtain⟨t,rfl⟩:=ry
 obtain⟨its,r,pl,hz⟩:=I.tuple hq
 obtain⟨j,h1,h2,h3,h4,h5⟩:=pR he
 obtain⟨w,ew,rw'⟩:=r.get h2
 have hl:=r.length
 have hn:=jn
 have fin:EP X pins σ Q w s:=⟨z,H,I,rw',q⟩
 exact subscriptTail_builtinR (x:=w) pl.typeIs slot_tuple_getitem.lookup
  (getItem_tuple (j:=j) (Q:=fun r s'=>r=w/\EP X pins σ Q r s') pl (by lia) (by lia) (by simp_all) (by simp_all) ⟨rfl,fin⟩) hs
theorem F9:IxR X HJ:=by
 intro value slice pins s σ H x y v u Q I rx ry h hs
 obtain⟨z,i,c,rfl,rfl,hz,he,q⟩:=h
 obtain⟨t,rfl⟩:=rx
 obtain⟨t',rfl⟩:=ry
 obtain⟨j,h1,h2,h3,h4,h5⟩:=pR he
 have hl:z.cps.toList.length=z.length:=by rfl
 rw[hl] at h1 h4 h5
 have hn:=jn
 exact tail_any (typeIs_str s z t) slot_str_getitem.lookup (getItem_str (c:=c) (by
  grind) (by simp_all) ⟨.str ⟨#[c]⟩,H,I.tok _,⟨_,rfl⟩,q⟩) hs
noncomputable def rIx (K:gV):R2:=fun x y H Q=>Je K x y H Q\/IK K x y H Q\/HJ x y H Q
theorem GN:IxR X (rIx X.K):=Cg.or (GI.or F9)
theorem vO (its:List LM) (n j) (u):Ob (·.setIfInBounds j u) { cls:=.type "list", data:=.seq its.toArray n }={ cls:=.type "list", data:=.seq (its.set j u).toArray n }:=by
 simp[Ob]
theorem Inv.lst {σ:St}{H:Hp}{s:LP}{p:Addr}{xs:List V} (I:Inv X pins σ H s) (h:H p=some (.lst xs)) :
  ∃its n,Vals xs its/\s.heap.get? p=some { cls:=.type "list", data:=.seq its.toArray n }/\xs.length<=sizeLine:=by
 obtain⟨z,its,n,r,e⟩:=I.hok p _ h
 simp_all
theorem Inv.EG {σ:St}{its its':List LM} (I:Inv X pins σ H s) (h:H p=some (.lst xs))
  (ho:s.heap.get? p=some { cls:=.type "list", data:=.seq its.toArray n }) (hf:f { cls:=.type "list", data:=.seq its.toArray n }={ cls:=.type "list", data:=.seq its'.toArray n' }) (r:Vals ys its') (hz:ys.length<=sizeLine) (t) :
  Inv X pins σ (upd H p (.lst ys)) { s with heap:=s.heap.update p f,toks:=t }:=by
 have e:(s.heap.update p f).get? p=some { cls:=.type "list", data:=.seq its'.toArray n' }:=by
  rw[Heap.get?_update_self f ho (by rw[hf]<;>rfl),hf]
 refine I.write (x:=p) (e:=p) (by rw[h];trivial) (.inl rfl) (fun b u hb q=>(Heap.get?_update_other _ _ (Q0 hb)).trans q) ⟨_,e⟩ ?_
 exact⟨hz,its',n',r,e⟩
noncomputable def Ef:V->V->V->Hp->(Hp->Prop)->Prop:=fun o i v H Q=>∃p xs k j,o=.ref p/\i=.int k/\H p=some (.lst xs)/\ixN xs.length k=some j/\Q (upd H p (.lst (xs.set j v)))
theorem set_list:EV X Ef:=by
 intro pins s σ H o i v ov iv u Q I ro ri rv h
 obtain⟨p,xs,k,j,rfl,rfl,hp,hj,q⟩:=h
 cases ro
 obtain⟨t,rfl⟩:=ri
 obtain⟨its,n,r,ho,hz⟩:=I.lst hp
 obtain⟨h1,h2,h3,h4⟩:=xY hj
 have hl:=r.length
 have hn:=jn
 have I':Inv X pins σ (upd H p (.lst (xs.set j v))) { s with heap:=s.heap.update p (Ob (·.setIfInBounds j u)) }:=
  I.EG hp ho (vO its n j u) (r.set rv j) (by simp_all) s.toks
 by_cases h0:0<=k
 ·have hk:k.toNat=j:=by
   rw[Q4 h0 h4] at h1
   simp_all
  exact PySem.W.ki_setAt ho h0 (by lia) (by simp_all) (by grind)
 ·have hk:(k+(its.toArray.size:Int)).toNat=j:=by
   rw[QO (by lia) h3] at h1
   simp_all
  exact PySem.W.ki_setBack ho (by lia) (by simp_all) (by lia) (by grind)
theorem qC (lo hi:Option Int) (n:Nat):(sliceBounds lo hi none n).1=((HT.sIx n 0 lo:Nat):Int)/\(sliceBounds lo hi none n).2.1=((HT.sIx n n hi:Nat):Int)/\(sliceBounds lo hi none n).2.2=1:=by
 refine⟨?_,?_,rfl⟩
 ·cases lo with
  | none=>rfl
  | some i=>
   simp only[sliceBounds,HT.sIx,Option.getD_none,show(1:Int) > 0 by decide,if_true]
   grind
 ·cases hi with
  | none=>rfl
  | some i=>
   simp only[sliceBounds,HT.sIx,Option.getD_none,show(1:Int) > 0 by decide,if_true]
   grind
theorem nY (its:List LM) (lo hi):slicePick its.toArray lo hi none=((its.drop (HT.sIx its.length 0 lo)).take (HT.sIx its.length its.length hi - HT.sIx its.length 0 lo)).toArray:=by
 obtain⟨h1,h2,h3⟩:=qC lo hi its.toArray.size
 unfold slicePick
 rw[h1,h2,h3]
 simp only[sliceRange_one,pick_run,Mb]<;>rfl
noncomputable def Ko (K:gV):V->Option Int->Option Int->Hp->VK->Prop:=fun x lo hi H Q=>∃a xs,x=.ref a/\SqL K H a xs/\∀p,H p=none->Q (.ref p) (upd H p (.lst (ou xs lo hi)))
theorem B6:SlR X (Ko X.K):=by
 intro pins s σ H x v vl vu lo hi sl Q I rx hs pl pu h
 obtain⟨a,xs,rfl,hx,q⟩:=h
 cases rx
 obtain⟨its,r,ht,hz⟩:=I.list hx
 have hlen:=r.length
 refine⟨"list", _,slot_list_getitem.lookup,ht.isList.typeIs,?_⟩
 refine wpAny_getItem_list_slice ht.isList hs pl pu .none (by simp) ?_ (by simp_all)
 rw[nY,<- hlen]
 refine⟨.ref s.heap.objs.size,_,I.laid (t':=s.toks) (o:=.lst (ou xs lo hi)) (fun b ob q=>ox _ q) (LH _) ?_,rfl,q _ (I.hok.fresh (LH _))⟩
 exact⟨L0 (k4 xs lo hi) hz,_,0,(r.drop (HT.sIx xs.length 0 lo)).take (HT.sIx xs.length xs.length hi - HT.sIx xs.length 0 lo),LN _ rfl⟩
noncomputable def i4:V->Bool
 | .non=>true
 | .bl _=>true
 | .int _=>true
 | .str _=>true
 | _=>false
noncomputable def eqV:V->V->Bool
 | .non,.non=>true
 | .bl a,.bl b=>a == b
 | .bl a,.int b=>(if a then 1 else 0) == b
 | .int a,.bl b=>a == (if b then 1 else 0)
 | .int a,.int b=>a == b
 | .str a,.str b=>a == b
 | _,_=>false
theorem E_ (ry:RelV y u) (rx:RelV x v) (fy:i4 y=true) (fx:i4 x=true):M9 A s u v (eqV y x):=by
 cases y with
 | non=>
  cases ry
  cases x with
  | non=>cases rx;exact M9.same _
  | bl b=>cases rx;exact M9.none_bool b
  | int b=>obtain⟨t,rfl⟩:=rx;exact M9.none_int b t
  | str b=>obtain⟨t,rfl⟩:=rx;exact M9.none_str b t
  | _=>exact absurd (show false=true from fx) Mm
 | bl a=>
  cases ry
  cases x with
  | non=>cases rx;exact M9.bool_none a
  | bl b=>cases rx;exact M9.bool_bool a b
  | int b=>obtain⟨t,rfl⟩:=rx;exact M9.bool_int a b t
  | str b=>obtain⟨t,rfl⟩:=rx;exact M9.bool_str a b t
  | _=>exact absurd (show false=true from fx) Mm
 | int a=>
  obtain⟨t',rfl⟩:=ry
  cases x with
  | non=>cases rx;exact M9.int_none a t'
  | bl b=>cases rx;exact M9.int_bool a t' b
  | int b=>obtain⟨t,rfl⟩:=rx;exact M9.int_int a t' b t
  | str b=>obtain⟨t,rfl⟩:=rx;exact M9.int_str a t' b t
  | _=>exact absurd (show false=true from fx) Mm
 | str a=>
  obtain⟨t',rfl⟩:=ry
  cases x with
  | non=>cases rx;exact M9.str_none a t'
  | bl b=>cases rx;exact M9.str_bool a t' b
  | int b=>obtain⟨t,rfl⟩:=rx;exact M9.str_int a t' b t
  | str b=>obtain⟨t,rfl⟩:=rx;exact M9.str_str a t' b t
  | _=>exact absurd (show false=true from fx) Mm
 | _=>exact absurd (show false=true from fy) Mm
noncomputable def eqU (x:V) (u:LM):Bool:=match u with
 | .none=>eqV .non x
 | .bool b=>eqV (.bl b) x
 | .int i _=>eqV (.int i) x
 | .str z _=>eqV (.str z) x
 | _=>false
theorem z_ (r:RelV y u) (f:i4 y=true):eqU x u=eqV y x:=by
 cases y with
 | non=>cases r;rfl
 | bl b=>cases r;rfl
 | int i=>obtain⟨t,rfl⟩:=r;rfl
 | str z=>obtain⟨t,rfl⟩:=r;rfl
 | _=>exact absurd (show false=true from f) Mm
theorem jL {x:V}:∀{xs:List V}{us:List LM},Vals xs us->xs.all i4=true->us.any (eqU x)=xs.any fun y=>eqV y x
 | _,_,.nil,_=>rfl
 | y::xs,u::us,.cons r t,f=>by
  rw[NP,MC] at f
  rw[N1,N1,z_ r f.1,jL t f.2]
theorem iH {A:MY}{s:LP}{x:V}{v:LM} (rx:RelV x v) (fx:i4 x=true):∀{xs:List V}{us:List LM},Vals xs us->xs.all i4=true->∀u∈us,M9 A s u v (eqU x u)
 | _,_,.nil,_=>fun u hu=>by cases hu
 | y::xs,u::us,.cons r t,f=>fun u' hu=>by
  rw[NP,MC] at f
  rcases LR.mp hu with rfl | hu
  ·rw[z_ r f.1];exact E_ r rx f.1 fx
  ·exact iH rx fx t f.2 u' hu
noncomputable def inV (x:V) (xs:List V):Bool:=xs.any fun y=>eqV y x
noncomputable def rIn (K:gV) (neg:Bool):R2:=fun x y H Q=>∃p xs,y=.ref p/\(SqL K H p xs\/SqT K H p xs)/\i4 x=true/\xs.all i4=true/\Q (.bl (if neg then !inV x xs else inV x xs)) H
theorem yr:OpR X (compareOp .In) (rIn X.K false):=by
 intro pins s σ H x y v u Q I rx ry h
 obtain⟨p,xs,rfl,hq,fx,fs,q⟩:=h
 cases ry
 rcases hq with hq | hq
 ·obtain⟨its,r,pl,hz⟩:=I.list hq
  refine SeqAt.in_listAt (eqU x) pl.isList (fun w hw=>iH rx fx r fs w (by simp_all)) ⟨.bl _,H,I,rfl,?_⟩
  rw[show its.toArray.any (eqU x)=its.any (eqU x) by simp,jL r fs]
  exact q
 ·obtain⟨its,r,pl,hz⟩:=I.tuple hq
  refine SeqAt.in_tupleAt (eqU x) pl (fun w hw=>iH rx fx r fs w (by simp_all)) ⟨.bl _,H,I,rfl,?_⟩
  rw[show its.toArray.any (eqU x)=its.any (eqU x) by simp,jL r fs]
  exact q
theorem g_:OpR X (compareOp .NotIn) (rIn X.K true):=by
 intro pins s σ H x y v u Q I rx ry h
 obtain⟨p,xs,rfl,hq,fx,fs,q⟩:=h
 cases ry
 rcases hq with hq | hq
 ·obtain⟨its,r,pl,hz⟩:=I.list hq
  refine SeqAt.notIn_listAt (eqU x) pl.isList (fun w hw=>iH rx fx r fs w (by simp_all)) ⟨.bl _,H,I,rfl,?_⟩
  rw[show its.toArray.any (eqU x)=its.any (eqU x) by simp,jL r fs]
  exact q
 ·obtain⟨its,r,pl,hz⟩:=I.tuple hq
  refine SeqAt.notIn_tupleAt (eqU x) pl (fun w hw=>iH rx fx r fs w (by simp_all)) ⟨.bl _,H,I,rfl,?_⟩
  rw[show its.toArray.any (eqU x)=its.any (eqU x) by simp,jL r fs]
  exact q
theorem rj:bJ X (.builtin "len") (fun xs H Q=>∃p ys,xs=[.ref p]/\(SqL X.K H p ys\/SqT X.K H p ys)/\Q (.int ys.length) H):=by
 intro pins s σ H xs us Q I r h
 obtain⟨p,ys,rfl,hq,q⟩:=h
 obtain⟨u,rfl,rx⟩:=vals1 r
 cases rx
 have hn:=jn
 rcases hq with hq | hq
 ·obtain⟨its,r',pl,hz⟩:=I.list hq
  have hlen:=r'.length
  exact Calls.call_len_list pl.isList (by grind) ⟨.int ys.length,H,I.tok _,⟨s.toks+1,by simp_all⟩,q⟩
 ·obtain⟨its,r',pl,hz⟩:=I.tuple hq
  have hlen:=r'.length
  exact len_tuple pl (by grind) ⟨.int ys.length,H,I.tok _,⟨s.toks+1,by simp_all⟩,q⟩
theorem qR:bJ X (.builtin "len") (fun xs H Q=>∃z,xs=[.str z]/\z.length<=sizeLine/\Q (.int z.length) H):=by
 intro pins s σ H xs us Q I r h
 obtain⟨z,rfl,hz,q⟩:=h
 obtain⟨u,rfl,t,rfl⟩:=vals1 r
 have hn:=jn
 exact len_str (by lia) ⟨.int z.length,H,I.tok _,⟨_,rfl⟩,q⟩
theorem bJ.or (h:bJ X f r) (h':bJ X f r'):bJ X f (fun xs H Q=>r xs H Q\/r' xs H Q):=by
 intro pins s σ H xs us Q I rs q
 rcases q with q | q
 ·exact h pins s σ H xs us Q I rs q
 ·exact h' pins s σ H xs us Q I rs q
theorem bO:bJ X (.type "tuple") (fun xs H Q=>∃p ys,xs=[.ref p]/\((SqL X.K H p ys/\∀l,H l=none->Q (.ref l) (upd H l (.tup ys)))\/(SqT X.K H p ys/\Q (.ref p) H))):=by
 intro pins s σ H xs us Q I r h
 obtain⟨p,ys,rfl,h⟩:=h
 obtain⟨u,rfl,rx⟩:=vals1 r
 cases rx
 rcases h with⟨hq,q⟩ | ⟨hq,q⟩
 ·obtain⟨its,r',pl,hz⟩:=I.list hq
  have hlen:=r'.length
  refine call_tuple_list pl.isList (fun h' kp=>?_) (by simp_all)
  have I1:Inv X pins σ H { s with heap:=h' }:=I.kept (t':=s.toks) kp
  have I2:Inv X pins σ (upd H h'.objs.size (.tup ys)) { s with heap:=h'.push { cls:=.type "tuple", data:=.seq its.toArray } }:=
   I1.laid (t':=s.toks) (fun b o e=>ox _ e) (LH _) (show cL X.prog X.w _ _ _ (.tup ys) from⟨hz,its,r',kx.new _ _⟩)
  exact⟨.ref h'.objs.size,_,I2,rfl,q _ (I1.hok.fresh (LH _))⟩
 ·obtain⟨its,r',pl,hz⟩:=I.tuple hq
  exact call_tuple_same pl ⟨.ref p,H,I,rfl,q⟩
noncomputable def tyV (K:gV) (T:String) (x:V) (H:Hp):Prop:=match x with
 | .str _=>T="str"
 | .int _=>T="int"
 | .ref p=>(T="list" /\ ∃xs,SqL K H p xs)\/(T="tuple" /\ ∃o,K.lookup p=some o/\o.cls=.type "tuple" /\ o.dict=none) ∨
   (T="dict" /\ ((∃kvs,H p=some (.dK kvs))\/∃kvs,H p=some (.dT kvs)))\/(T="set" /\ ∃S n,H p=some (.set S n))\/(T="tuple" /\ ∃xs,H p=some (.tup xs))
 | _=>False
theorem Em {pins:List (Addr × Obj)}{σ:St}{H:Hp}{s:LP}{T:String}{x:V}{v:LM} (I:Inv X pins σ H s) (r:RelV x v) (ty:tyV X.K T x H) :
  s.TypeIs v T/\∀a,v=.ref a->∃ob,s.heap.get? a=some ob/\ob.dict=none:=by
 cases x with
 | str z=>
  obtain⟨t,rfl⟩:=r
  cases (show T="str" from ty)
  exact⟨typeIs_str s z t,fun _ e=>nomatch e⟩
 | int i=>
  obtain⟨t,rfl⟩:=r
  cases (show T="int" from ty)
  exact⟨Rb s i t,fun _ e=>nomatch e⟩
 | ref p=>
  cases r
  rcases ty with⟨rfl,xs,hq⟩ | ⟨rfl,o,hk,hc,hd⟩ | ⟨rfl,hk⟩ | ⟨rfl,S,n,hk⟩ | ⟨rfl,xs,hk⟩
  ·obtain⟨its,_,pl,_⟩:=I.list hq
   refine⟨pl.isList.typeIs,fun a e=>?_⟩
   cases e
   obtain⟨o,n,e,c,hd,_⟩:=pl
   simp_all
  ·refine⟨⟨o,I.kIn p o hk,hc⟩,fun a e=>?_⟩
   cases e
   exact⟨o,I.kIn _ o hk,hd⟩
  ·have z:∃o,s.heap.get? p=some o/\o.ExactDict:=by
    rcases hk with⟨kvs,hk⟩ | ⟨kvs,hk⟩
    ·obtain⟨_,_,_,_,o,_,_,e,ex,_⟩:=I.hok p _ hk
     simp_all
    ·obtain⟨_,_,_,_,o,_,_,e,ex,_⟩:=I.hok p _ hk
     simp_all
   obtain⟨o,e,ex⟩:=z
   refine⟨⟨o,e,ex.1⟩,fun a e2=>?_⟩
   cases e2
   exact⟨o,e,ex.2.1⟩
  ·obtain⟨o,_,_,_,e,ex,_⟩:=I.hok p _ hk
   refine⟨⟨o,e,ex.1⟩,fun a e2=>?_⟩
   cases e2
   exact⟨o,e,ex.2.1⟩
  ·obtain⟨_,_,_,o,e,⟨c,_⟩,hd⟩:=I.hok p _ hk
   refine⟨⟨o,e,c⟩,fun a e2=>?_⟩
   simp_all
 | _=>exact Px ty
noncomputable def tBM (K:gV) (T:String) (r:V->List V->Hp->VK->Prop) (to:TE) (t:TA):TE:=fun σ H Q=>to σ H fun x H1=>tyV K T x H1/\t σ H1 fun xs H2=>r x xs H2 Q
variable {o e:Expr}{es:List Expr}{to:TE}{t:TA}{name:Str}{apos cpos:Pos}{T id:String}{r:V->List V->Hp->VK->Prop}
theorem HP (pa:PlainAttrs T) (slot:Slot T name id) (hty:typeOf (.builtin id)=pure (.type "method_descriptor")) (hm:MtR X id r) (ho:PE X o to) (ha:PA X (e::es) t)
  (hbase:attributeBase o name X.env (eval o X.env)=eval o X.env:=by rfl)
  (hfew:((backTo cpos (starEach (e::es) X.env)).all (fun x=>!x.1)&&(backToKw cpos (keywordEach [] X.env)).all (fun x=>x.1.isSome)
   && decide ((e::es).length+([]:List Ru).length+(if ([]:List Ru).isEmpty then 0 else 1)<30))=true:=by rfl)
  (hline:(apos.endLine == cpos.line)=true:=by rfl) (hs:starEach (e::es) X.env=(false,eval e X.env)::starEach es X.env:=by rfl) (hplain:(backTo cpos (starEach es X.env)).any (·.1)=false:=by rfl) :
  PE X (.Call (.Attribute o name apos) (e::es) [] cpos) (tBM X.K T r to t):=by
 intro pins s σ H Q I h
 refine wpAny_Call_method_late hbase hfew hline rfl (thn (ho pins s σ H _ I h) fun v s1 ⟨x,H1,I1,r1,ty,q1⟩=>?_)
 obtain⟨h1,h2⟩:=Em I1 r1 ty
 refine⟨T,id,pa,slot,hty,h1,h2,?_⟩
 have hA:=ha cpos pins s1 σ H1 _ I1 q1
 rw[hs] at hA ⊢
 refine Calls.callWith_builtin (by simp_all) (Calls.evalArgs_plain ?_)
 exact thn hA fun us s2 ⟨vs,H2,I2,r2,q2⟩=>hm pins s2 σ H2 x vs v us Q I2 r1 r2 q2
/- xs.append(e),list.index on a module's tuple .. are MtR facts of 06m -/
end
noncomputable def MtM (X:Cx) (id:String) (r:V->List V->Hp->VK->Prop):Prop:=
 ∀pins s (σ:St) H x xs v us Q , Inv X pins σ H s->RelV x v->Vals xs us->r x xs H Q →
  wpAny (model X.prog X.w) X.A (call (.builtin id) (v::us)) (EP X pins σ Q) X.xe s
theorem Vals.one:∀{x:V}{us:List LM},Vals [x] us->∃u,us=[u]/\RelV x u
 | _,_,.cons r .nil=>⟨_,rfl,r⟩
theorem Vals.rep {xs:List V}{us:List LM} (h:Vals xs us):∀k:Nat,Vals (Mq k xs).flatten (Mq k us).flatten
 | 0=>.nil
 | k+1=>by
  rw[OP,OP,List.flatten_cons,List.flatten_cons]
  exact Vals.append h (Vals.rep h k)
theorem foldl_rep (its:List LM):∀(k:Nat) (acc:List LM),
  QK (fun x1 x2=>x1++x2) acc.toArray (Mq k its.toArray)=(acc++(Mq k its).flatten).toArray
 | 0,acc=>by simp
 | k+1,acc=>by
  have e:acc.toArray++its.toArray=(acc++its).toArray:=by simp
  have e2:(acc++its)++(Mq k its).flatten=acc++(Mq (k+1) its).flatten:=by
   grind
  rw[<- e2,<- foldl_rep its k (acc++its),<- e,OP,Oz]
section
variable {X:Cx}{pins:List (Addr × Obj)}{σ:St}{H:Hp}{s:LP}{l b:Addr}{xs ys zs:List V}
theorem Inv.Kx {its its':List LM} (I:Inv X pins σ H s) (hH:H l=some (.lst xs))
  (e:s.heap.get? l=some { cls:=.type "list", data:=.seq its.toArray n }) (hf:f its.toArray=its'.toArray) (hv:Vals ys its') (hz:ys.length<=sizeLine) :
  Inv X pins σ (upd H l (.lst ys)) { s with heap:=s.heap.update l (Ob f),toks:=t' }:=by
 have q:=PySem.IsL.update e f
 rw[hf] at q
 refine I.write (x:=l) (e:=l) (by rw[hH];exact trivial) (.inl rfl) (fun b' u hb hu=>(Heap.get?_update_other s.heap (Ob f) (Q0 hb)).trans hu) ⟨_,q⟩ ?_
 exact⟨hz,its',_,hv,q⟩
theorem Inv.AX (I:Inv X pins σ H s) (hv:Vals ys its) (hz:ys.length<=sizeLine) :
  Inv X pins σ (upd H s.heap.objs.size (.lst ys)) { s with heap:=s.heap.push { cls:=.type "list", data:=.seq its.toArray },toks:=t' }:=
 I.laid (fun _ _ q=>ox _ q) (LH _) ⟨hz,its,0,hv,LN _ rfl⟩
theorem Inv.fresh (I:Inv X pins σ H s):H s.heap.objs.size=none:=I.hok.fresh (LH _)
theorem Inv.Kt (I:Inv X pins σ H s) (hH:H l=some (.lst xs)):xs.length<=sizeLine/\∃its n,Vals xs its/\xs.length=its.length/\s.heap.get? l=some { cls:=.type "list", data:=.seq its.toArray n }:=by
 obtain⟨z,its,n,r,e⟩:=I.hok l _ hH
 exact⟨z,its,n,r,r.length,e⟩
theorem Bw (h:n<=sizeLine):OT n=false:=by
 unfold OT
 simp_all
end
section
variable {X:Cx}
noncomputable def wx:V->List V->Hp->VK->Prop:=fun x vs H Q=>∃l xs y,x=.ref l/\vs=[y]/\H l=some (.lst xs)/\xs.length<sizeLine/\Q .non (upd H l (.lst (xs++[y])))
theorem gH:MtM X "list.append" wx:=by
 intro pins s σ H x vs v us Q I rx rv h
 obtain⟨l,xs,y,rfl,rfl,hH,hz,q⟩:=h
 cases rx
 obtain⟨u,rfl,ru⟩:=rv.one
 obtain⟨z,its,n,r,hl,e⟩:=I.Kt hH
 refine Rc F.slot_list_append ⟨_,e,rfl⟩ F.entry_list_append (F.args_list_append_2 _ _) (PySem.list_append l its.toArray n u (by simp_all)) ⟨e,?_⟩
 refine⟨.non,_,I.Kx (its':=its++[u]) hH e (by simp) (r.append (.cons ru .nil)) ?_,rfl,q⟩
 grind
theorem len_rep {α:Type} (xs:List α) (k):(Mq k xs).flatten.length=k*xs.length:=by
 simp
end
end L2
namespace Att
open PySem PySem.W PySem.Calls PyProof.Rows
theorem lA:∀ns vs , WellAll P h vs (ns.map WData.int)->Oi vs ns:=by
 intro ns
 induction ns with
 | nil=>
  intro vs w
  rw[NS] at w
  cases w
  exact .nil
 | cons n ns ih=>
  intro vs w
  rw[LW] at w
  cases w with
  | cons a b=>
   cases a
   exact .cons _ _ (ih _ b)
theorem yC {l:Rj} (hn:l.most=some n)
  (hpre:l.row.toRowW.claim.pre args=true) (hwl:WellAll P h vals args) :
  ∃a vs ns,vals=[OJ a]/\args=[WData.list (ns.map WData.int)]/\h.get? a=some { cls:=.type "list", data:=.seq vs.toArray }/\Oi vs ns/\ns.length<=n:=by
 have hsh:WShape.hasAll [] args [.list .int]=true:=(pre_splitW hpre).1
 have hc:l.pre.holds [] { args:=args }=true:=(pre_splitW hpre).2
 obtain⟨d,r,rfl,h1,h2⟩:=hasAllW_cons hsh
 obtain rfl:=hasAllW_nil h2
 obtain⟨xs,rfl,h3⟩:=hasW_list h1
 obtain⟨ns,rfl⟩:=items_int h3
 have hlen:ns.length<=n:=by
  unfold Rj.pre at hc
  have h4:(WTm.not (.lt (.lit (.int (n:Int))) (.len (.arg 0)))).holds [] { args:=[.list (ns.map .int)] }=true:=by
   have h4:=(holds_andW hc).1
   simp_all
  have h5:=condW_of h4 (w_not (w_lt w_lit (w_len_list (w_arg rfl))))
  simp_all
 cases hwl with
 | cons w1 w2=>
  cases w2
  cases w1 with
  | list ho hall=>exact⟨_,_,ns,rfl,rfl,ho,lA ns _ hall,hlen⟩
theorem yk (l:Rj) (args):l.row.toRowW.claim.post args (.bool true) args=true:=
 postW_of (r:=l.row.toRowW) (X:=(true == true))
  (show WShape.has [] (.bool true) .bool=true by rfl)
  (show(WTm.eq .res (.lit (.bool true))).value [] { args:=args,res:=some (.bool true),after:=args }=some (.bool (true == true)) from w_eq_bool (w_res rfl) w_lit) rfl
theorem rO {l:Rj}
  (hn:l.most=some n) (hdf:d.params.defaults=[])
  (call:∀w au s₁ mg mb fa o pm cd doc a vs ns ,
   Ground q loose [] XP w au mg mb s₁.heap->YP w s₁.heap →
   s₁.heap.get? fa=some o->o.data=.func (docDef d.name d.params d.body d.scope pm cd doc)->s₁.heap.CodeRec cd d.name->mg d.name=some (.ref fa) →
   s₁.heap.get? a=some { cls:=.type "list", data:=.seq vs.toArray }->Oi vs ns->ns.length<=n->s₁.gens = #[] →
   codeAny (model l.prog w) callerA (.call (.ref fa) ⟨[.ref a],[]⟩) (fun r s'=>r=.ok (.ret (.bool true))/\OldK s₁.heap s'.heap/\s'.os=s₁.os/\Qh s'.gens) s₁) :
  WalkO q loose XP YP l.row.toRowW d [] (fun f vs=>Rf f vs):=by
 intro w au s₁ mg mb G Y fa o pm cd doc dV kV ho hd hcd hD hmg hg args vals as hpre hlay hrd hwl hlo
 obtain rfl:dV=.none:=Dflts.none hD hdf
 obtain rfl:kV=.none:=Dflts.noKw hD
 obtain⟨a,vs,ns,rfl,rfl,hobj,hints,hlen⟩:=yC hn hpre hwl
 refine enter_call (Of (call w au s₁ mg mb fa o pm cd doc a vs ns G Y ho (fd_plain hd) hcd hmg hobj hints hlen hg) fun r s' hq=>?_)
 obtain⟨rfl,h2,h3,h4⟩:=hq
 exact⟨.inl ⟨.bool true,.bool true,[],rfl,fun _=>rfl,.bool true,yk l _,fun _=>⟨O_,fun _ hm=>(nomatch hm)⟩⟩,h2,h3,h4⟩
end Att
namespace L2
open PySem PySem.Spec PyProof.Rows
theorem oF:∀{vs:List LM}{ns:List Int},Oi vs ns->Vals (ns.map V.int) vs
 | _,_,.nil=>.nil
 | _,_,.cons n t h=>.cons ⟨t,rfl⟩ (oF h)
noncomputable def Kw (H:Hp):Prop:=∀b,H b=none\/∃o xs,H b=some (.frz o (.lst xs))
end L2
/- THE LAST THEOREM (shape;LID,My.* are yours):
  My.Adr: a structure of the addresses that your layer names (classes,functions);My.Txt K t: a structure (Prop) of the equations over K;
  My.txt_mk:{K} {implicit addresses ..} (e1:nsIn K mainGlobals "law" = some (some (.ref f))) (e2:K.lookup f=some ⟨oc,od,.func (fnOf "law" "law" params body scope dV kV doc pm an cdv ct),sl⟩) (e3:codeIn K cdv "law" = true) .. : ∃t,My.Txt K t
(the tactic k_is has no namespace: write k_is) -/
namespace L2
open PySem PySem.Spec PyProof.Rows
noncomputable def d6 (s:Stmt):Qx:=match s with
 | .FunctionDef _ a _ _ _ _ _ _ _ _=>a
 | _=>{ posonlyargs:=[],args:=[],vararg:=none,kwonlyargs:=[],kw_defaults:=[],kwarg:=none,defaults:=[] }
noncomputable def cA (s:Stmt):List Stmt:=match s with
 | .FunctionDef _ _ b _ _ _ _ _ _ _=>b
 | _=>[]
noncomputable def ak (s:Stmt):Pg:=match s with
 | .FunctionDef _ _ _ _ _ _ sc _ _ _=>sc
 | _=>{ kind:=.function,names:=[],isGenerator:=false,isCoroutine:=false }
noncomputable abbrev CX0:CXT:=fun _ _ _ _ _ _=>False
noncomputable abbrev E0:XK:=fun _ _ _=>False
theorem HX:Passes CX0 X E0:=fun _ _ _ _ _ _ _ h=>h.elim
structure Fun (K) (x qual) (st) (f) (fd):Prop where
 ex:∃oc od kV doc pm an cdv ct osl,
  fd=M0 x qual (d6 st) (cA st) (ak st) .none kV doc pm an cdv ct/\K.lookup f=some ⟨oc,od,.func fd,osl⟩/\OK K cdv qual=true
 kp:M5 K (.ref f)=true
section
variable {P:Mc}{w:MU}{K:gV}{mg:Str->Option LM}{base:Heap}
theorem Fun.ok {st:Stmt} (F:Fun K x qual st f fd) (S:aF N ps (ak st)) (len:∀vs H Q E,sp vs H Q E->vs.length=ps.length)
  (hbody:∀cdv A outer s H vs Q E , eP k (A.deeper (envOfC qual (ak st) s.heap.objs.size f cdv))->sp vs H Q E →
   ∃t,PSs (jj CX0 P w K mg base N qual (ak st) f cdv A outer s H E).nox (cA st) t/\t { nx:=fun _ H'=>Q .non H',rt:=Q } (start N vs) H):dI P w K mg base CX0 (k+1) f fd ps sp:=by
 obtain⟨oc,od,kV,doc,pm,an,cdv,ct,osl,rfl,lk,hcd⟩:=F.ex
 refine Jf lk hcd S len fun A outer s H vs Q E hr hsp=>?_
 obtain⟨t,h,q⟩:=hbody cdv A outer s H vs Q E hr hsp
 exact⟨t,h.nox,q⟩
theorem Fun.binds {st:Stmt} (F:Fun K x qual st f fd)
  (h:∀kV doc pm an cdv ct us , us.length=ps.length->bindArgs (M0 x qual (d6 st) (cA st) (ak st) .none kV doc pm an cdv ct) ⟨us,[]⟩=pure (ps.zip us)):Binds K fd ps []:=by
 obtain⟨oc,od,kV,doc,pm,an,cdv,ct,osl,rfl,lk,hcd⟩:=F.ex
 exact .all (h kV doc pm an cdv ct)
theorem Bt {st:Stmt}{kV doc pm cdv ct:LM} (l:K.lookup f=some ⟨oc,od,.func (M0 x qual (d6 st) (cA st) (ak st) .none kV doc pm an cdv ct),osl⟩)
  (c:OK K cdv qual=true) (k:M5 K (.ref f)=true):Fun K x qual st f (M0 x qual (d6 st) (cA st) (ak st) .none kV doc pm an cdv ct):=⟨⟨oc,od,kV,doc,pm,an,cdv,ct,osl,rfl,l,c⟩,k⟩
end
noncomputable def PTs (X:Cx) (ifs:List Expr) (t:TT):Prop:=
 ∀pins s (σ:St) H Q , Inv X pins σ H s->t σ H Q →
  wpAny (model X.prog X.w) X.A (forIn ifs true fun c r=>if r=true then do let ok ← isTrue c X.env (eval c X.env);pure (NU ok) else pure (NU r)) (TP X pins σ Q) X.xe s
noncomputable def Jc:TT:=fun _ H Q=>Q true H
theorem BW:PTs X [] Jc:=fun _ _ _ H _ I h=>wpAny_tests_nil ⟨H,I,h⟩
theorem Cc (h:PT X c t):PTs X [c] t:=fun pins s σ H Q I q=>wpAny_tests_one (h pins s σ H Q I q)
theorem sx (I:Nat->LP->Prop)
  (turn:∀n s,I n s->wpAny (model prog w) A (pyNext it) (fun r s₁=>match r with
   | none=>R (.ok .next) s₁
   | some v=>wpAny (model prog w) A (letOwnedTupleGo target it v) (fun _ s₁=>wpAny (model prog w) A (assign target env v) (fun _ s₂=>
     wpAny (model prog w) A (forIn ifs true fun c r=>if r=true then do let ok ← isTrue c env (eval c env);pure (NU ok) else pure (NU r)) (fun ok s₃=>
      if ok=true then wpAny (model prog w) A (eval elt env) (fun x s₄=>
       wpAny (model prog w) A (call (.builtin "list.append") [acc,x]) (fun _ s₅=>∃m,m<n/\I m s₅) (fun _ _=>False) s₄) (fun _ _=>False) s₃
      else ∃m,m<n/\I m s₃) (fun _ _=>False) s₂) (fun _ _=>False) s₁) (fun _ _=>False) s₁) (fun _ _=>False) s)
  (n) (h:I n s) :
  codeAny (model prog w) A (.compLoop (.ListComp elt [⟨target,iter,ifs,0⟩] scope pos) 0 it acc env) R s:=by
 refine QP rfl I (fun n s hI=>?_) n h
 refine Q5 ?_
 refine P5 ?_
 refine k3 (Og (k3 (Nw (turn n s hI) (fun r s₁ h₁=>?_) fun _ _ h'=>h')))
 cases r with
 | none=>exact LJ h₁
 | some v=>
  refine k3 (Nw h₁ (fun _ s₁' h₁'=>?_) fun _ _ h'=>h')
  refine k3 (Nw h₁' (fun _ s₂ h₂=>k3 (Nw h₂ (fun ok s₃ h₃=>?_) fun _ _ h'=>h')) fun _ _ h'=>h')
  cases ok with
  | false=>exact LJ ⟨rfl,h₃⟩
  | true=>
   exact k3 (k3 (Nw h₃ (fun x s₄ h₄=>k3 (Nw h₄ (fun _ s₅ h₅=>LJ (LJ ⟨rfl,h₅⟩)) fun _ _ h'=>h')) fun _ _ h'=>h'))
noncomputable def aL (X:Cx) (scope:Pg) (cl:List (Str × Addr)) (C:Addr) (au:LP) (av:Hp) (fp:List Addr) (N':List Str):Cx:=
 { X with N:=N',au:=au,av:=av,env:=compEnvC scope cl C X.env,outer:=X.stack,ex:=fp,fn:=fun _=>false,pn:=[] }
theorem ja {env:Env}:∀(names:List (Str × NW)) (cs:List (Str × Addr)),(∀y∈names,y.2=.free->∃a,env.cells.lookup y.1=some a)->(∀x c,cs.lookup x=some c->env.cells.lookup x=some c) →
  ∃cl:List (Str × Addr),(forIn names cs fun(y:Str × NW) (r:List (Str × Addr))=>if (y.2 == OD)=true then do let a ← cellOf env y.1;pure (NU ((y.1,a)::r)) else pure (NU r):Sem (List (Str × Addr)))=pure cl ∧
   (∀x c,cl.lookup x=some c->env.cells.lookup x=some c)/\(∀x,((x,OD)∈names\/∃c,cs.lookup x=some c)->∃c,cl.lookup x=some c)
 | [],cs,_,h=>⟨cs,rfl,h,fun x hx=>by
   simp_all⟩
 | (n,k)::r,cs,hf,h=>by
  by_cases hk:k=.free
  ·subst hk
   obtain⟨a,ha⟩:=hf (n,.free) (by simp) rfl
   obtain⟨cl,e,h1,h2⟩:=ja r ((n,a)::cs) (fun y hy=>hf y (td _ hy)) (fun x c q=>by
    grind)
   refine⟨cl,?_,h1,fun x hx=>?_⟩
   ·rw[PF]
    have e0:cellOf env n=pure a:=by unfold cellOf;rw[ha]
    simp_all
   ·have hc:∀z c,cs.lookup z=some c->∃c,((n,a)::cs).lookup z=some c:=fun z c q=>by
     grind
    rcases hx with z | ⟨c,z⟩
    ·rcases LR.mp z with q | q
     ·simp_all
     simp_all
    simp_all
  ·obtain⟨cl,e,h1,h2⟩:=ja r cs (fun y hy=>hf y (td _ hy)) h
   grind
theorem gp (h:∀y∈scope.names,y.2=.free->∃a,env.cells.lookup y.1=some a) :
  ∃cl:List (Str × Addr),closureFor scope env=pure cl/\(∀x c,cl.lookup x=some c->env.cells.lookup x=some c)/\(∀x,(x,OD)∈scope.names->∃c,cl.lookup x=some c):=by
 obtain⟨cl,e,h1,h2⟩:=ja scope.names [] h (fun x c q=>by cases q)
 refine⟨cl,?_,h1,fun x hx=>h2 x (.inl hx)⟩
 exact LO (congrArg (fun t:Sem (List (Str × Addr))=>t >>= fun cs=>pure cs) e) rfl
theorem lookup_mem {x:Str}{k:NW}:∀{names:List (Str × NW)},names.lookup x=some k->(x,k)∈names
 | [],h=>by cases h
 | (n,j)::r,h=>by
  rw[List.lookup_cons] at h
  cases hx:x == n with
  | true=>
   simp_all
  | false=>rw[hx] at h;exact td _ (lookup_mem h)
theorem cI {env:Env} (hf:env.scope.kind=.function):∀{names:List (Str × NW)}{x:Str},names.lookup x=some .free->env.kindOf x=some .cell →
  (names.map fun(n,k)=>if (k == OD&&env.scope.kind == .function&&env.kindOf n == some .cell) then (n,NW.cell) else (n,k)).lookup x=some .cell
 | [],_,h,_=>by cases h
 | (n,k)::r,x,h,hc=>by
  have ih:=@cI env hf r x
  grind
theorem cR {env:Env}:∀{names:List (Str × NW)}{x:Str}{k:NW},(names.map fun(n,k)=>if (k == OD&&env.scope.kind == .function&&env.kindOf n == some .cell) then (n,NW.cell) else (n,k)).lookup x=some k →
  names.lookup x=some k\/(names.lookup x=some .free/\k=.cell)
 | [],_,_,h=>by cases h
 | (n,j)::r,x,k,h=>by
  have ih:=@cR env r x k
  grind
noncomputable def o_ (ix:List Nat) (σ:St):St:=none::ix.map fun i=>(σ[i]?).join
noncomputable abbrev IC (J:It) (tt:TT) (te:TE) (σ':V->St) (acc:Addr) (H1:Hp) (Q:VK):Prop:=
 ∃W:Nat->Nat->List V->Hp->Prop,(∃m,W 0 m [] (upd H1 acc (.lst [])))/\∀i m ys H,W i m ys H →
  (J.stop i H/\Q (.ref acc) H)\/(J.go i H/\∀x H',J.yld i H x H'->tt (σ' x) H' fun b H2=>if b=true then te (σ' x) H2 fun y H3=>
    H3 acc=some (.lst ys)/\ys.length<sizeLine/\∃m',m'<m/\W (i+1) m' (ys++[y]) (upd H3 acc (.lst (ys++[y])))
   else ∃m',m'<m/\W (i+1) m' ys H2)
noncomputable def D_ (wi:TI) (ix:List Nat) (tt:TT) (te:TE):TE:=fun σ H Q=>wi σ H fun J H1=>∀acc,H1 acc=none->IC J tt te (fun x=>(o_ ix σ).set 0 (some x)) acc H1 Q
theorem HOk.sameBut (x:HOk P w H h) (hn:H C=none) (k:∀b u,b≠C->h.get? b=some u->h'.get? b=some u):HOk P w H h':=fun b u e=>by
 have nC:∀b u,H b=some u->b≠C:=fun b u e z=>by simp_all
 refine(x b u e).kj (fun c v hc q=>k c v ?_ q) (fun _ q=>q) fun _ _ q=>q
 grind
theorem tf:isSubtype (.type "tuple") (.type "set")=pure false:=by rfl
theorem pZ:isSubtype (.type "tuple") (.type "frozenset")=pure false:=by rfl
noncomputable abbrev fB (led:Bool):Obj:={ cls:=.type "set", dict:=none,data:=.set #[] 0 (.fresh 0 0 led) }
set_option maxHeartbeats 3200000 in
theorem set_tuple {prog:Mc}{w:MU}{B:MY}{Er:LM->LP->Prop}{z:LP}{a:Addr}{its:Array LM}{zs:List Int}{Q:LM->LP->Prop}
  (hh:B.handled=none) (ht:z.heap.IsTuple a its) (hi:Oi its.toList zs) (hb:its.size+1<scanBound)
  (fin:∀(g':Heap) (tk:Nat),g'.SetOf (intKind prog w) z.heap.objs.size (fun k'=>(firstMet (fun i=>zs.getD i 0) its.size).any (· == k')) (firstMet (fun i=>zs.getD i 0) its.size).length →
   (∀b o,b<z.heap.objs.size->z.heap.get? b=some o->g'.get? b=some o)->Q (.ref z.heap.objs.size) { z with heap:=g',toks:=tk }) :
  wpAny (model prog w) B (call (.type "set") [.ref a]) Q Er z:=by
 obtain⟨_,_,_⟩:=OA.mro
 have:=OA.made
 have:=OA.sub
 refine QJ (codeAny_of_tree ?_)
 show wpAny _ _ (callAny (.type "set") _) _ _ _
 refine LJ ⟨Code.quiet_builtin _ (by decide +kernel),codeAny_builtin F.entry_type_call ?_⟩
 rw[MY.under_plain (weight_type_call_type "set" [.ref a] []) rfl]
 have:=OA.notType
 have:=OA.canCreate
 have:=F.typeCall_set_1 (.ref a)
 repeat (any_goals (first | assumption | wp_step))
 refine Of (code_set_new_1 (.ref a) (E:=Er) (Q₁:=fun v y=>∃led:Bool,v=.ref z.heap.objs.size/\y={ z with heap:=z.heap.push (fB led) }) fun led=>⟨led,rfl,rfl⟩) fun r y hr=>?_
 cases r with
 | error e=>exact hr
 | ok fl=>
  cases fl with
  | ret v=>
   obtain⟨led,rfl,rfl⟩:=hr
   have hS:(z.heap.push (fB led)).get? z.heap.objs.size=some (fB led):=LN _ rfl
   have hT:LP.TypeIs { z with heap:=z.heap.push (fB led) } (.ref z.heap.objs.size) "set" := ⟨_,hS,rfl⟩
   have:=OA.init.lookup
   have:=OA.init.bind (.ref z.heap.objs.size)
   repeat (any_goals (first | assumption | wp_step))
   refine Of (codeAny_call_builtin (R:=wants (fun r y=>r=.none/\∃g' tk,y={ z with heap:=g',toks:=tk } ∧
     g'.SetOf (intKind prog w) z.heap.objs.size (fun k'=>(firstMet (fun i=>zs.getD i 0) its.size).any (· == k')) (firstMet (fun i=>zs.getD i 0) its.size).length ∧
     (∀b o,b<z.heap.objs.size->z.heap.get? b=some o->g'.get? b=some o)) Er) OA.init.plain F.entry_set_init (check_set_init_1 hT ?_)) fun r₂ y₂ hr₂=>?_
   ·obtain⟨ol,hol,hcl,nl,hdl⟩:=id ht
    obtain⟨oc,od,oda,osl⟩:=ol
    simp only at hcl hdl
    subst hcl;subst hdl
    have hol':(z.heap.push (fB led)).get? a=some { cls:=.type "tuple", dict:=od,data:=.seq its nl,slots:=osl }:=ox _ hol
    have:=tf
    have:=pZ
    have:(Ot "tuple" == Ot "dict")=false:=by decide
    have ht1:(z.heap.push (fB led)).IsTuple a its:=⟨_,hol',rfl,nl,rfl⟩
    unfold NC.«set.__init__» noKeywords NC.Frozenset.updateFrom
    generalize hPI:pyIter=PI
    wp_walk
    subst hPI
    refine NK ht1 ?_
    refine k3 (wpAny_runValue ?_)
    have hlS:a<z.heap.objs.size:=LI hol
    have hneI:a≠(z.heap.push (fB led)).objs.size:=by
     rw[NT];exact LZ (Pa hlS)
    have hSf:z.heap.objs.size∉[(z.heap.push (fB led)).objs.size,a]:=by
     rw[NT];simp only[LR,LX,M6,or_false,not_or]
     exact⟨LZ (M7 _),NR hlS⟩
    have hval:∀(i:Nat) (v:LM),its[i]?=some v->∃t,v=.int ((fun i=>zs.getD i 0) i) t:=fun i v hv=>Oi.int_at hi i v (by rw[Md];exact hv)
    refine codeAny_set_update_loopS ((Walks.tuple (by simp[hh]) _ a hneI its).toS) z.heap.objs.size
     hSf (fun i=>zs.getD i 0) hval hb (its.size - 0) 0 _ (by lia) (Nj _)
     ⟨⟨_,LN _ rfl,rfl,rfl⟩,?hP⟩ ?hS0 ?hR
    case hP=>exact⟨_,ox _ hol',rfl,nl,rfl⟩
    case hS0=>
     exact SetOf_congr ((setObjOf_fresh (knd:=intKind prog w) led).setOf (ox _ hS) (by unfold scanBound;lia)) (fun _=>rfl) rfl
    case hR=>
     intro s' hm hS'
     obtain⟨h',g',d',tk',os'⟩:=s'
     obtain rfl:g'=z.gens:=hm.gens
     obtain rfl:d'=z.drawn:=hm.drawn
     obtain rfl:os'=z.os:=hm.os
     show wpAny _ _ _ _ _ _
     refine LJ ?_
     show wpAny _ _ (ret N7) _ _ _
     refine LJ ⟨rfl,h',tk',rfl,hS',fun b o hb e=>?_⟩
     refine hm.heap b o ?_ (ox _ (ox _ e))
     simp only[LR,LX,M6,or_false,not_or]
     refine⟨LZ hb,?_⟩
     show b≠(z.heap.push (fB led)).objs.size
     rw[NT];exact LZ (Pa hb)
   ·cases r₂ with
    | error e=>exact hr₂
    | ok fl₂=>
     cases fl₂ with
     | ret r=>
      obtain⟨rfl,g',tk,rfl,hS',hk'⟩:=hr₂
      repeat (any_goals (first | assumption | wp_step))
      exact fin _ _ hS' hk'
     | _=>exact hr₂.elim
  | _=>exact hr.elim
section
variable {X:Cx}
theorem tT:bJ X (.builtin "isinstance") (fun vs H Q=>∃x t n b,vs=[x,.ty n]/\jk X.K H x t/\ND X.K t (.type n)=some b/\Q (.bl b) H):=by
 intro pins s σ H xs us Q I r h
 obtain⟨x,t,n,b,rfl,ty,e,q⟩:=h
 obtain⟨u,w',rfl,r1,r2⟩:=vals2 r
 cases r2
 exact yp I r1 ty e fun tk=>⟨.bl b,H,I.tok tk,rfl,q⟩
noncomputable def unl (ns:List Int):List Int:=firstMet (fun i=>ns.getD i 0) ns.length
theorem qG (hc:X.calm=true):bJ X (.type "set") (fun vs H Q=>∃p ns,vs=[.ref p]/\SqT X.K H p (ns.map V.int)/\ns.length+1<scanBound/\∀l,H l=none->Q (.ref l) (upd H l (.set (fun k=>(unl ns).any (· == k)) (unl ns).length))):=by
 intro pins s σ H xs us Q I r h
 obtain⟨p,ns,rfl,hq,hb,q⟩:=h
 obtain⟨u,rfl,rx⟩:=vals1 r
 cases rx
 obtain⟨its,r',pl,hz⟩:=I.tuple hq
 have hlen:=r'.length
 rw[LQ] at hlen
 have e0:its.toArray.size=ns.length:=by rw[Mb,hlen]
 refine set_tuple (I.ok.hd hc) (show s.heap.IsTuple p its.toArray from pl) (by simpa using intsAre_of r') (by rw[e0];exact hb) fun g' tk hS hk=>?_
 rw[e0] at hS
 exact⟨.ref s.heap.objs.size,_,I.laid (fun b o e=>hk b o (LI e) e) (LH _) (show cL X.prog X.w _ g' _ (.set _ _) from hS),rfl,q _ (I.hok.fresh (LH _))⟩
theorem nM:bJ X (.builtin "len") (fun vs H Q=>∃p S n,vs=[.ref p]/\H p=some (.set S n)/\Q (.int n) H):=by
 intro pins s σ H xs us Q I r h
 obtain⟨p,S,n,rfl,hH,q⟩:=h
 obtain⟨u,rfl,rx⟩:=vals1 r
 cases rx
 obtain⟨o,es,ep,tb,ho,hex,hd,hel,hmem,hsz,hfit,rfl⟩:=(show s.heap.SetOf (intKind X.prog X.w) p S n from I.hok p _ hH)
 have hb:(es.size:Int)<2 ^ 63:=by unfold scanBound at hsz;lia
 exact PySem.call_len_set ho hex hd hfit hb ⟨.int es.size,H,I.tok _,⟨_,rfl⟩,q⟩
theorem iX {lo hi:Option Int} (ht:IsTup s.heap t items) (hs:s.heap.IsSliceOf sl vl vu .none) (pl:Qz vl lo) (pu:Qz vu hi)
  (h1:HT.sIx items.size 0 lo=0) (h2:HT.sIx items.size items.size hi=items.size) (h:Q (.ref t) s):wpAny (model prog w) A (getItem (.ref t) (.ref sl)) Q E s:=by
 obtain⟨os,hos,hcs,hds⟩:=id hs
 have hTs:s.TypeIs (.ref sl) "slice" := ⟨os,hos,hcs⟩
 unfold getItem
 try with_reducible refine NO ?_
 refine k3 (wpAny_sequenceKey ht.typeIs (by decide) ?_)
 refine k3 (Nu ht.typeIs MP (Ny MP ht.typeIs entry_tuple_getitem ?_ (args_tuple_getitem _ _)))
 show wpAny _ _ (NC.Tuple.tupleItemsOf (.ref t) >>= _) _ _ s
 refine k3 (tupleItemsOf_ ht (k3 (QN hTs ?_)))
 refine k3 (HT.gA hs pl pu ?_)
 rw[h1,h2]
 show wpAny _ _ (if (((0:Nat):Int) == 0&&(1:Int) == 1&&(items.size - 0) == items.size)=true then _ else _) _ _ s
 rw[if_pos (by simp)]
 refine k3 (k3 (QN ht.typeIs (LJ ?_)))
 refine k3 (Py ?_)
 first
  | exact LJ ⟨_,rfl,LJ h⟩
  | exact k3 (LJ (LJ ⟨_,rfl,LJ h⟩))
noncomputable def GV (K:gV):V->Option Int->Option Int->Hp->VK->Prop:=fun x lo hi H Q=>∃a xs,x=.ref a/\SqT K H a xs/\HT.sIx xs.length 0 lo=0/\HT.sIx xs.length xs.length hi=xs.length/\Q (.ref a) H
theorem DF:SlR X (GV X.K):=by
 intro pins s σ H x v vl vu lo hi sl Q I rx hs pl pu h
 obtain⟨a,xs,rfl,hx,h1,h2,q⟩:=h
 cases rx
 obtain⟨its,r,ht,hz⟩:=I.tuple hx
 have hlen:its.toArray.size=xs.length:=by rw[Mb];exact r.length.symm
 refine⟨"tuple", _,MP.lookup,ht.typeIs,?_⟩
 exact iX ht hs pl pu (by simp_all) (by simp_all) ⟨.ref a,H,I,rfl,q⟩
noncomputable def zQ (K:gV):R2:=fun x y H Q=>∃a b ys,x=.ref a/\y=.ref b/\SqT K H a []/\SqT K H b ys/\Q (.ref b) H
theorem Bl:OpR X (binaryOp .Add) (zQ X.K):=by
 intro pins s σ H x y v u Q I rx ry h
 obtain⟨a,b,ys,rfl,rfl,ha,hb,q⟩:=h
 cases rx
 cases ry
 obtain⟨its,r1,p1,_⟩:=I.tuple ha
 obtain⟨its2,r2,p2,_⟩:=I.tuple hb
 cases r1
 obtain⟨⟨cls,dd,data,sl⟩,ho,hc,n,hd⟩:=id p1
 obtain⟨⟨cls2,dd2,data2,sl2⟩,ho2,hc2,n2,hd2⟩:=id p2
 subst hc hd hc2 hd2
 exact QM ⟨_,ho,rfl⟩ ⟨_,ho2,rfl⟩ Qb Qy O2 OX (OS _ _)
  (tuple_addW0 a b _ _ n n2 dd dd2 sl sl2 (by simp)) ⟨ho,ho2,⟨.ref b,H,I,rfl,q⟩⟩
end
open AutoSeq1 (wpAny_loadPart')
noncomputable def qb (a:Addr) (lo hi st:Int):HO:=.ext fun h=>∃t u v,h.get? a=some { cls:=.type "range", data:=.fields #[.int lo t,.int hi u,.int st v] }
noncomputable def rF (lo st:Int) (n:Nat):List Int:=(LK n).map fun(i:Nat)=>lo+(i:Int)*st
theorem ud (lo st:Int) (n:Nat):(rF lo st n).length=n:=by simp[rF]
theorem ve {lo st:Int} (h:ItemsOf (fun i v=>∃t,v=.int (lo+i*st) t) acc n):Vals ((rF lo st n).map V.int) acc.toList:=by
 obtain⟨hs,hv⟩:=h
 have key:∀(l:List LM) (k:Nat),(∀j v,l[j]?=some v->∃t,v=Ol (lo+((k+j:Nat):Int)*st) t)->Vals (((P6 k l.length).map fun(i:Nat)=>lo+(i:Int)*st).map V.int) l:=by
  intro l
  induction l with
  | nil=>intro k _;exact .nil
  | cons a r ih=>
   intro k hk
   refine .cons ?_ (ih (k+1) fun j v e=>?_)
   ·obtain⟨t,q⟩:=hk 0 a rfl
    exact⟨t,by lia⟩
   ·obtain⟨t,q⟩:=hk (j+1) v (by simp_all)
    grind
 have:=key acc.toList 0 fun j v e=>by
  simp_all
 unfold rF
 rw[N6,<- hs]
 omega
section
variable {X:Cx}
theorem Inv.rng {pins:List (Addr × Obj)}{σ:St}{H:Hp}{s:LP}{lo hi st:Int}{t u v:Tok}{tk:Nat} (I:Inv X pins σ H s) :
  Inv X pins σ (upd H s.heap.objs.size (qb s.heap.objs.size lo hi st)) { s with heap:=s.heap.push { cls:=.type "range", data:=.fields #[.int lo t,.int hi u,.int st v] },toks:=tk }:=by
 refine I.laid (fun b o e=>ox _ e) (LH _) ?_
 refine⟨⟨t,u,v,LN _ rfl⟩,⟨_,LN _ rfl⟩,fun h1 h2 ⟨a,b,c,e⟩ k=>⟨a,b,c,k _ e⟩⟩
theorem za:bJ X (.type "range") (fun vs H Q=>∃j,vs=[.int j]/\∀p,H p=none->Q (.ref p) (upd H p (qb p 0 j 1))):=by
 intro pins s σ H xs us Q I r h
 obtain⟨j,rfl,q⟩:=h
 obtain⟨u,rfl,t,rfl⟩:=vals1 r
 exact call_range_1 ⟨.ref _,_,I.rng,rfl,q _ (I.hok.fresh (LH _))⟩
theorem yi:bJ X (.type "range") (fun vs H Q=>∃i j,vs=[.int i,.int j]/\∀p,H p=none->Q (.ref p) (upd H p (qb p i j 1))):=by
 intro pins s σ H xs us Q I r h
 obtain⟨i,j,rfl,q⟩:=h
 obtain⟨u,w',rfl,⟨t,rfl⟩,⟨t',rfl⟩⟩:=vals2 r
 exact call_range_2 ⟨.ref _,_,I.rng,rfl,q _ (I.hok.fresh (LH _))⟩
structure wK (lo hi st) (n:Nat):Prop where
 sm:NC.Range.small lo hi st=true
 sz:NC.Range.rangeSize lo hi st=n
 le:n<=2 ^ 20
theorem Inv.G8 {σ:St}{lo hi st:Int} (I:Inv X pins σ H s) (h:H p=some (qb p lo hi st)):∃t u v,IsRange s.heap p lo hi st t u v:=by
 obtain⟨⟨t,u,v,e⟩,_⟩:=I.hok p _ h
 grind
theorem nU (hc:X.calm=true):bJ X (.type "list") (fun vs H Q=>∃p lo hi st n,vs=[.ref p]/\H p=some (qb p lo hi st)/\wK lo hi st n/\∀l,H l=none->Q (.ref l) (upd H l (.lst ((rF lo st n).map V.int)))):=by
 intro pins s σ H xs us Q I r h
 obtain⟨p,lo,hi,st,n,rfl,hp,ok,q⟩:=h
 obtain⟨u,rfl,rx⟩:=vals1 r
 cases rx
 obtain⟨t,u,v,hr⟩:=I.G8 hp
 have hn:=ok.le
 refine call_list_range (I.ok.hd hc) hr ok.sm ok.sz (by lia) fun h' tk acc c kp e hi=>?_
 have hv:=ve hi
 refine⟨.ref s.heap.objs.size,_,I.laid kp (LH _) (show cL X.prog X.w _ h' _ (.lst _) from⟨?_,acc.toList,c,hv,by omega⟩),rfl,q _ (I.hok.fresh (LH _))⟩
 rw[LQ,ud,MV];lia
end
section
variable {X:Cx}
theorem zm (h1:-1000000<=a) (h2:a<=1000000) (h3:-1000000<=b) (h4:b<=1000000) (h:b - a<=1000000):wK a b 1 (b - a).toNat:=
 ⟨small_one (by lia) (by lia) (by lia) (by lia),by rw[rangeSize_one];lia,by lia⟩
theorem Vals.get' {xs:List V}{us:List LM}{i:Nat}{u:LM} (r:Vals xs us) (h:us[i]?=some u):∃x,xs[i]?=some x/\RelV x u:=by
 have hl:=r.length
 have hi:i<xs.length:=by rw[hl];exact(Mu.mp h).1
 obtain⟨u',e1,e2⟩:=r.get (LU hi)
 rw[h] at e1;cases e1
 exact⟨_,LU hi,e2⟩
end
theorem yD (h:ns.Nodup):(unl ns).length=ns.length:=by
 have key:∀(l acc:List Int),(acc++l).Nodup->l.foldl Rg acc=acc++l:=by
  intro l
  induction l with
  | nil=>simp
  | cons a r ih=>
   intro acc hn
   have h1:a∉acc:=by
    grind
   have e:Rg acc a=acc++[a]:=by
    unfold Rg
    simp_all
   simp_all
 have e:(LK ns.length).map (fun i=>ns.getD i 0)=ns:=by
  apply Pn
  ·simp
  simp_all
 unfold unl firstMet
 simp_all
theorem Inv.CW {σ:St} (I:Inv X (pins++[(C,o)]) σ H s) (cC:∀x c,X.env.cells.lookup x=some c->c≠C) (hC:X.au.heap.objs.size<=C) (pC:∀p∈X.pn++pins,p.1≠C) (hs:Ph C s.heap h'):Inv X pins σ H { s with heap:=h' }:=by
 have kb:∀b u,b≠C->s.heap.get? b=some u->h'.get? b=some u:=fun b u hb z=>hs.extBut b u hb z
 obtain⟨q0,q1,q2,q3,q4⟩:=I.pin (C,o) (tv _ (tv _ (LX.mpr rfl)))
 have J:Inv X pins σ H s:=I.iS fun p hp=>I.pin p (tv _ (OG _ hp))
 refine J.oQ (s':={ s with heap:=h' }) (ch:=[C]) rfl ⟨fun b u z n a c=>kb b u (fun e=>c (by simp_all)) z,fun b u z n a c=>⟨u.slots,kb b _ (fun e=>c (by simp_all)) z⟩,fun b u z n c=>n,fun b u z c=>⟨u,kb b u (fun e=>c (by simp_all)) z⟩,fun b xs z=>z,fun b ob u z=>z,fun b ps z=>⟨#[],by simp_all⟩⟩ (J.hok.sameBut q1 kb) J.bare fun b hb=>?_
 grind
section
variable {prog:Mc}{w:MU}{A:MY}{E:LM->LP->Prop}{s:LP}
theorem gW (hi:s.heap.IsTupleIter it t i) (ht:s.heap.IsTuple t its) (hx:its[i]?=some x) (hQ:∀h',h'.IsTupleIter it t (i+1)->Ph it s.heap h'->Q x { s with heap:=h' }) :
  wpAny (model prog w) A (Nd (.ref it)) Q E s:=by
 obtain⟨oi,h1,h2,h3⟩:=id hi
 obtain⟨ot,k1,_,nt,k2⟩:=ht
 refine k3 (Nu hi.typeIs N0 (Ny N0 hi.typeIs F.entry_tuple_iterator_next ?_ (F.args_tuple_iterator_next_1 _)))
 refine k3 (m:=field (.ref it) 0) (Nt h1 h3 rfl ?_)
 show wpAny _ _ (if (OJ t == N7)=true then _ else field (.ref it) 1 >>= _) _ _ s
 refine k3 (Nt h1 h3 rfl (k3 (N5 k1 k2 ?_)))
 simp only[Int.toNat_natCast,hx]
 exact k3 (wpAny_setField h1 h3 (by simp) (LJ ⟨x,rfl,LJ (hQ _ ⟨_,Heap.get?_update_self _ h1 (Obj.isFreed_of_fields (Obj.data_mapFields h3 _)),(Obj.cls_mapFields ..).trans h2,by rw[Obj.data_mapFields h3];rfl⟩ (Ph.update ..))⟩))
theorem iU (hh:A.handled=none) (hi:s.heap.IsTupleIter it t i) (ht:s.heap.IsTuple t its) (hx:its[i]?=none)
  (hE:∀h' e,Heap.ExtBut it s.heap h'->(∃o,h'.get? e=some o/\o.cls=.type "StopIteration")->E (.ref e) { s with heap:=h' }):wpAny (model prog w) A (Nd (.ref it)) Q E s:=by
 obtain⟨oi,h1,h2,h3⟩:=id hi
 obtain⟨ot,k1,_,nt,k2⟩:=ht
 refine k3 (Nu hi.typeIs N0 (Ny N0 hi.typeIs F.entry_tuple_iterator_next ?_ (F.args_tuple_iterator_next_1 _)))
 refine k3 (m:=field (.ref it) 0) (Nt h1 h3 rfl ?_)
 show wpAny _ _ (if (OJ t == N7)=true then _ else field (.ref it) 1 >>= _) _ _ s
 refine k3 (Nt h1 h3 rfl (k3 (N5 k1 k2 ?_)))
 simp only[Int.toNat_natCast,hx]
 refine k3 (Py (k3 (wpAny_setField h1 h3 (by simp) (k3 ?_))))
 refine k3 (Nl (k3 (wpAny_of_eq (by rfl) (Nl ?_ (by size_fits)))) (by size_fits))
 refine k3 (wpAny_handled ?_)
 rw[show A.in1.handled=none from hh]
 exact k3 (LJ (wpAny_throw (hE _ _ (((Ph.update ..).extBut.push _).push _) ⟨_,LN _ rfl,rfl⟩)))
end
theorem Draws.tup {prog:Mc}{w:MU}{A:MY} (hh:A.handled=none) (it t:Addr) (hne:t≠it) (its:Array LM):Draws prog w A it [it,t] its.size (fun i v=>its[i]?=some v) (fun i h=>h.IsTupleIter it t i/\h.IsTuple t its) where
 live:=fun _ _ z=>let ⟨o,ho,_⟩:=z.1;⟨o,ho⟩
 frame:=fun _ _ _ z hk=>⟨z.1.at fun o e=>hk it (by simp) o e,z.2.at fun o e=>hk t (by simp) o e⟩
 item:=fun i s Q E hi z hQ=>gW z.1 z.2 (x:=its[i]) (by simp[hi]) fun h' a b=>hQ _ h' s.toks (by simp[hi]) ⟨a,z.2.extBut b.extBut hne⟩ b
 done:=fun s Q E z hE=>iU hh z.1 z.2 (by simp) hE
section
open AutoSeq1 (wpAny_loadPart')
theorem vX (t) (its) (n) (dct) (sl) :
  Meets (NC.«enumerate.__new__» ⟨[.type "enumerate", .ref t],[]⟩) (fun _ R s=>s.heap.get? t=some { cls:=.type "tuple", dict:=dct,data:=.seq its n,slots:=sl } ∧
   R (.ok (.ret (.ref (s.heap.push { cls:=.type "tuple_iterator", data:=.fields #[.ref t,.int 0 0] }).objs.size))) { s with heap:=(s.heap.push { cls:=.type "tuple_iterator", data:=.fields #[.ref t,.int 0 0] }).push { cls:=.type "enumerate", data:=.fields #[.none,.bool false,.ref s.heap.objs.size,rawInt 0,.none,.none] } }):=
 .of_wp fun prog w A R s z=>by
  obtain⟨hp,gs,dr,tk,os⟩:=s;obtain⟨ht,z⟩:=z
  have su:=sub_enumerate
  have hT:Qj (Q6 ⟨hp,gs,dr,tk,os⟩) t its:=⟨_,ht,rfl,n,rfl⟩
  wp_walk using Qk ht
  refine wpAny_stack_any fun st=>LJ ?_
  split
  ·rename_i c _ _ _ _ _
   cases (c == Ot "enumerate")<;>(wp_walk using Qk ht,NK hT;exact⟨_,rfl,z⟩)
  ·(wp_walk using Qk ht,NK hT);exact⟨_,rfl,z⟩
end
section
variable {prog:Mc}{w:MU}{A:MY}{E:LM->LP->Prop}{s:LP}
theorem G0 (hT:s.heap.IsTuple t its)
  (q:∀h',Rq h' (s.heap.objs.size+1) s.heap.objs.size 0 .none->h'.IsTupleIter s.heap.objs.size t 0->h'.objs.size=s.heap.objs.size+2->(∀b o,s.heap.get? b=some o->h'.get? b=some o)->Q (.ref (s.heap.objs.size+1)) { s with heap:=h' }) :
  wpAny (model prog w) A (call (.type "enumerate") [.ref t]) Q E s:=by
 obtain⟨⟨c,dct,dt,sl⟩,ht,hc,n,hd⟩:=hT
 subst hc hd
 refine callType_new F.called_enumerate (by decide) (F.typeCall_enumerate_1 _) (F.newCall_enumerate_1 _) (fun obj=>F.args_object_init_2 obj _) F.entry_enumerate_new (vX t its n dct sl) ⟨ht,?_⟩
 have hz:(s.heap.push { cls:=.type "tuple_iterator", data:=.fields #[.ref t,.int 0 0] }).objs.size=s.heap.objs.size+1:=NT ..
 rw[hz]
 have he:Rq ((s.heap.push { cls:=.type "tuple_iterator", data:=.fields #[.ref t,.int 0 0] }).push { cls:=.type "enumerate", data:=.fields #[.none,.bool false,.ref s.heap.objs.size,rawInt 0,.none,.none] }) (s.heap.objs.size+1) s.heap.objs.size 0 .none:=by
  have y:=LN (s.heap.push { cls:=.type "tuple_iterator", data:=.fields #[.ref t,.int 0 0] }) (o:={ cls:=.type "enumerate", data:=.fields #[.none,.bool false,.ref s.heap.objs.size,rawInt 0,.none,.none] }) rfl
  grind
 exact⟨⟨_,he,rfl⟩,q _ he ⟨_,ox _ (LN _ rfl),rfl,rfl⟩ (by simp) fun b o x=>ox _ (ox _ x)⟩
end
theorem Inv.yielded {X:Cx}{pins:List (Addr × Obj)}{σ:St}{H:Hp}{s:LP}{fp:List Addr}{T:Addr}{o:HO}{h':Heap}{t':Nat} (I:Inv X pins σ H s) (hf:∀b∈fp,jf X pins H b) (k:∀b u,b∉fp->s.heap.get? b=some u->h'.get? b=some u)
  (hT:s.heap.objs.size<=T) (new:cL X.prog X.w (upd H T o) h' T o):Inv X pins σ (upd H T o) { s with heap:=h',toks:=t' }:=by
 have nT:∀b u,s.heap.get? b=some u->b≠T:=fun b u e z=>absurd (LI e) (by rw[z];exact Pz.mpr hT)
 have nH:∀b u,H b=some u->b≠T:=fun b u e z=>absurd (I.hok.lt e) (by rw[z];exact Pz.mpr hT)
 have nf:∀b u,H b=some u->b∉fp:=fun b u e z=>by rw[(hf b z).1] at e;cases e
 refine I.oQ (s':={ s with heap:=h',toks:=t' }) rfl ⟨fun b u e n _ c=>k b u c e,fun b u e n _ c=>⟨u.slots,k b u c e⟩,fun b u e n c=>by rw[aK (nT b u e)];exact n,fun b u e c=>⟨u,k b u c e⟩,fun b xs e=>by rw[aK (nH b _ e)];exact e,fun b ob u e=>by rw[aK (nH b _ e)];exact e,fun b ps e=>⟨#[],by rw[aK (nH b _ e),e];simp⟩⟩ (fun b u e=>?_) I.bare (fun b hb=>?_)
 ·by_cases hb:b=T
  ·subst hb
   rw[a8] at e
   cases e
   exact new
  ·rw[aK hb] at e
   refine(I.hok b u e).kj (fun c v hc q=>k c v ?_ q) (fun c q=>by rw[aK (nH c _ q)];exact q) fun c xs q=>by rw[aK (nH c _ q)];exact q
   rcases hc with z | z
   ·rw[z];exact nf b u e
   ·exact nf c _ z
 ·obtain⟨_,g1,_,g3,g4,g5⟩:=hf b hb
  exact⟨g3,g1,g4,g5⟩
theorem Inv.lT {σ:St}{fp:List Addr} (I:Inv X pins σ H s) (hf:∀b∈fp,jf X pins H b) (k:∀b u,b∉fp->s.heap.get? b=some u->h'.get? b=some u):Inv X pins σ H { s with heap:=h',toks:=t' }:=by
 have nf:∀b u,H b=some u->b∉fp:=fun b u e z=>by rw[(hf b z).1] at e;cases e
 refine I.oQ (s':={ s with heap:=h',toks:=t' }) rfl ⟨fun b u e n _ c=>k b u c e,fun b u e n _ c=>⟨u.slots,k b u c e⟩,fun b u e n c=>n,fun b u e c=>⟨u,k b u c e⟩,fun b xs e=>e,fun b ob u e=>e,fun b ps e=>⟨#[],by grind⟩⟩ (fun b u e=>?_) I.bare (fun b hb=>?_)
 ·refine(I.hok b u e).kj (fun c v hc q=>k c v ?_ q) (fun c q=>q) fun c xs q=>q
  grind
 ·obtain⟨_,g1,_,g3,g4,g5⟩:=hf b hb
  grind
noncomputable def Iel (K:gV) (a:Addr):It:=
 ⟨fun i H=>∃xs x,SqL K H a xs/\xs[i]?=some x,fun i H x H'=>∃p v,x=.ref p/\H p=none/\(∀xs,SqL K H a xs->xs[i]?=some v)/\H'=upd H p (.tup [.int i,v]),fun i H=>∃xs,SqL K H a xs/\xs.length<=i⟩
noncomputable def Iet (K:gV) (a:Addr):It:=
 ⟨fun i H=>∃xs x,SqT K H a xs/\xs[i]?=some x,fun i H x H'=>∃p v,x=.ref p/\H p=none/\(∀xs,SqT K H a xs->xs[i]?=some v)/\H'=upd H p (.tup [.int i,v]),fun i H=>∃xs,SqT K H a xs/\xs.length<=i⟩
theorem mQ {St:Nat->Heap->Prop} (D:Draws prog w A.in1 it fp n P St) (e) (hei:e≠it) (hef:e∉fp) (i) (s:LP) (Q) (E) (hi:i<n)
  (hst:(∃old,Rq s.heap e it i old)/\St i s.heap)
  (hQ:∀T vals h' tk,(∃t x,P i x/\vals = #[.int i t,x])->s.heap.objs.size<=T->kx h' T vals->((∃x,IsEnumOut h' e it ((i:Int)+1) x T)/\St (i+1) h'/\T≠e/\T≠it)->(∀b o,b∉[e,it]->s.heap.get? b=some o->h'.get? b=some o)->Q (some (.ref T)) { s with heap:=h',toks:=tk }) :
  wpAny (model prog w) A (pyNext (.ref e)) Q E s:=by
 obtain⟨⟨old,he⟩,hs⟩:=hst
 refine wpAny_pyNext_enum_itemD D he hs hi hei hef fun x h1 tk hP ho hs1 hT _ hk=>?_
 refine hQ s.heap.objs.size #[.int i tk,x] h1 (tk+1) ⟨tk,x,hP,rfl⟩ (LH _) ⟨_,hT,⟨rfl,_,rfl⟩,rfl⟩ ⟨⟨_,ho⟩,hs1,NR (LI he),?_⟩ fun b o hb y=>hk b o (fun z=>hb (by simp[z])) (fun z=>hb (by simp[z])) y
 obtain⟨_,y⟩:=D.live _ _ hs
 exact NR (LI y)
theorem BB {h:Heap}{e it:Addr}{i:Int}{old:LM} (z:Rq h e it i old):∃o,h.get? e=some o/\∀v,o.data≠.cell v:=⟨_,z,fun v q=>nomatch q⟩
theorem u9 {P:Mc}{w:MU}{K:gV}{elts:List Expr}{k:Nat}{pos:Pos}{a it e:Addr} (hei:e≠it):Turn P w K (.Tuple elts k pos) (Iel K a) [e,it] e (fun i h=>(∃old,Rq h e it i old)/\h.IsListIter it a i) where
 mem:=by simp
 obj:=fun i h z b hb=>by
  obtain⟨⟨old,z1⟩,z2⟩:=z
  rcases LR.mp hb with rfl | hb
  ·exact BB z1
  ·rw[LX.mp hb]
   obtain⟨o,q,_,d⟩:=z2
   exact⟨o,q,fun v y=>by rw[d] at y;cases y⟩
 keep:=fun i h h' z kk=>⟨let ⟨old,z1⟩:=z.1;⟨old,kk e (by simp) _ z1⟩,z.2.at fun o q=>kk it (by simp) o q⟩
 item:=by
  intro X hP hw hK hc i pins s σ H E I hf st hg
  subst hP hw hK
  obtain⟨xs,x,hq,hx⟩:=hg
  obtain⟨its,rv,p,hz⟩:=I.list hq
  obtain⟨u,hu,ru⟩:=rv.get hx
  have hl:=rv.length
  have plt:a<s.heap.objs.size:=by obtain⟨o,q,_⟩:=p.isList;exact LI q
  have hai:a≠it/\a≠e:=by
   obtain⟨oa,qa,ca,_⟩:=p.isList
   obtain⟨⟨old,z1⟩,oi,qi,ci,_⟩:=st
   exact⟨(fun q=>by rw[q,qi] at qa;cases qa;rw[ci] at ca;injection ca with y;exact absurd y (by decide)),(fun q=>by rw[q,z1] at qa;cases qa;injection ca with y;exact absurd y (by decide))⟩
  have DD:=(Draws.list (prog:=X.prog) (w:=X.w) (A:=X.A.in1) (I.ok.hd hc) it a hai.1 its.toArray)
  have hef0:e∉[it,a]:=by simp;exact⟨hei,fun q=>hai.2 q.symm⟩
  have W:=WalksT.enumerateD (prog:=X.prog) (w:=X.w) (A:=X.A) DD e hei hef0 (by simp)
  refine mQ DD e hei hef0 i s _ _ (by rw[Mb,<- hl];exact(Mu.mp hx).1) ⟨st.1,st.2,p.isList⟩ fun T vals h1 tk hv hT ht hm k1=>?_
  obtain⟨t,v,hv1,hv2⟩:=hv
  have ev:v=u:=by
   have:its[i]?=some v:=by simpa using hv1
   rw[hu] at this;exact(Nq this).symm
  subst ev
  refine⟨.ref T,rfl,W.go elts k pos i T { s with heap:=h1,toks:=tk } _ _ hm fun h2 st2 k2=>?_⟩
  have kk:∀b o,b∉[e,it]->s.heap.get? b=some o->h2.get? b=some o:=fun b o hb q=>k2 b o hb (k1 b o hb q)
  have hT2:kx h2 T vals:=by
   obtain⟨o,q,c⟩:=ht
   exact⟨o,k2 T o (fun z=>W.apart _ _ _ hm z) q,c⟩
  have hn:H T=none:=I.hok.fresh hT
  have nTf:∀b∈[e,it],b≠T:=fun b hb z=>by
   have hlt:b<s.heap.objs.size:=by
    rcases LR.mp hb with rfl | hb
    ·obtain⟨old,z1⟩:=st.1;exact LI z1
    ·rw[LX.mp hb];obtain⟨o,q,_⟩:=st.2;exact LI q
   rw[z] at hlt;exact absurd hlt (Pz.mpr hT)
  refine⟨.ref T,upd H T (.tup [.int i,x]),I.yielded (t':=tk) hf kk hT ⟨by show 2<=sizeLine;decide,[.int i t,v],.cons ⟨t,rfl⟩ (.cons ru .nil),?_⟩,rfl,⟨T,x,rfl,hn,fun ys hy=>by rw[I.iy hy hq];exact hx,rfl⟩,⟨st2.1,st2.2.1⟩,fun b hb=>by rw[aK (nTf b hb)];exact(hf b hb).1⟩
  rw[hv2] at hT2;exact hT2
 done:=by
  intro X hP hw hK hc i pins s σ H E I hf st hg
  subst hP hw hK
  obtain⟨xs,hq,hx⟩:=hg
  obtain⟨its,rv,p,hz⟩:=I.list hq
  obtain⟨⟨old,z1⟩,z2⟩:=st
  have hl:=rv.length
  exact wpAny_pyNext_enum_end (I.ok.hd hc) z1 z2 p.isList (NA (by rw[Mb];lia)) fun h' eb=>⟨rfl,I.lT (t':=s.toks) hf fun b u hb q=>eb b u (fun z=>hb (by simp[z])) q⟩
 self:=fun A i s Q E z q=>by
  obtain⟨⟨old,z1⟩,z2⟩:=z
  exact Pb z1 q
theorem vI {P:Mc}{w:MU}{K:gV}{elts:List Expr}{k:Nat}{pos:Pos}{a it e:Addr} (hei:e≠it):Turn P w K (.Tuple elts k pos) (Iet K a) [e,it] e (fun i h=>(∃old,Rq h e it i old)/\h.IsTupleIter it a i) where
 mem:=by simp
 obj:=fun i h z b hb=>by
  obtain⟨⟨old,z1⟩,z2⟩:=z
  rcases LR.mp hb with rfl | hb
  ·simp_all
  ·rw[LX.mp hb]
   obtain⟨o,q,_,d⟩:=z2
   simp_all
 keep:=fun i h h' z kk=>⟨let ⟨old,z1⟩:=z.1;⟨old,kk e (by simp) _ z1⟩,z.2.at fun o q=>kk it (by simp) o q⟩
 item:=by
  intro X hP hw hK hc i pins s σ H E I hf st hg
  subst hP hw hK
  obtain⟨xs,x,hq,hx⟩:=hg
  obtain⟨its,rv,p,hz⟩:=I.tuple hq
  obtain⟨u,hu,ru⟩:=rv.get hx
  have hl:=rv.length
  have plt:a<s.heap.objs.size:=by obtain⟨o,q,_⟩:=(show s.heap.IsTuple a its.toArray from p);exact LI q
  have hai:a≠it/\a≠e:=by
   obtain⟨oa,qa,ca,_⟩:=(show s.heap.IsTuple a its.toArray from p)
   obtain⟨⟨old,z1⟩,oi,qi,ci,_⟩:=st
   grind
  have DD:=(Draws.tup (prog:=X.prog) (w:=X.w) (A:=X.A.in1) (I.ok.hd hc) it a hai.1 its.toArray)
  have hef0:e∉[it,a]:=by grind
  have W:=WalksT.enumerateD (prog:=X.prog) (w:=X.w) (A:=X.A) DD e hei hef0 (by simp)
  refine mQ DD e hei hef0 i s _ _ (by grind) ⟨st.1,st.2,(show s.heap.IsTuple a its.toArray from p)⟩ fun T vals h1 tk hv hT ht hm k1=>?_
  obtain⟨t,v,hv1,hv2⟩:=hv
  have ev:v=u:=by
   simp_all
  subst ev
  refine⟨.ref T,rfl,W.go elts k pos i T { s with heap:=h1,toks:=tk } _ _ hm fun h2 st2 k2=>?_⟩
  have kk:∀b o,b∉[e,it]->s.heap.get? b=some o->h2.get? b=some o:=fun b o hb q=>k2 b o hb (k1 b o hb q)
  have hT2:kx h2 T vals:=by
   obtain⟨o,q,c⟩:=ht
   exact⟨o,k2 T o (fun z=>W.apart _ _ _ hm z) q,c⟩
  have hn:H T=none:=I.hok.fresh hT
  have nTf:∀b∈[e,it],b≠T:=fun b hb z=>by
   simp_all
  refine⟨.ref T,upd H T (.tup [.int i,x]),I.yielded (t':=tk) hf kk hT ⟨by show 2<=sizeLine;decide,[.int i t,v],.cons ⟨t,rfl⟩ (.cons ru .nil),?_⟩,rfl,⟨T,x,rfl,hn,fun ys hy=>by rw[I.gE hy hq];exact hx,rfl⟩,⟨st2.1,st2.2.1⟩,fun b hb=>by rw[aK (nTf b hb)];exact(hf b hb).1⟩
  simp_all
 done:=by
  intro X hP hw hK hc i pins s σ H E I hf st hg
  subst hP hw hK
  obtain⟨xs,hq,hx⟩:=hg
  obtain⟨its,rv,p,hz⟩:=I.tuple hq
  obtain⟨⟨old,z1⟩,z2⟩:=st
  have hl:=rv.length
  have pt:s.heap.IsTuple a its.toArray:=p
  have DD:Draws X.prog X.w X.A.in1 it [it,a] i (fun _ _=>True) (fun j h=>j=i/\h.IsTupleIter it a j/\h.IsTuple a its.toArray):={
   live:=fun _ _ z=>let ⟨o,ho,_⟩:=z.2.1;⟨o,ho⟩
   frame:=fun _ _ _ z hk=>⟨z.1,z.2.1.at fun o e=>hk it (by simp) o e,z.2.2.at fun o e=>hk a (by simp) o e⟩
   item:=fun j s Q E hj z hQ=>absurd z.1 (LZ hj)
   done:=fun s Q E z hE=>iU (I.ok.hd hc) z.2.1 z.2.2 (NA (by simp_all)) hE }
  exact wpAny_pyNext_enum_endD DD z1 ⟨rfl,z2,pt⟩ fun h' eb=>⟨rfl,I.lT (t':=s.toks) hf fun b u hb q=>eb b u (fun z=>hb (by simp[z])) q⟩
 self:=fun A i s Q E z q=>by
  obtain⟨⟨old,z1⟩,z2⟩:=z
  exact Pb z1 q
noncomputable def GY (K:gV) (tl:TE):TI:=fun σ H R=>tl σ H fun x H1=>∃a,x=.ref a/\(((∃xs,SqL K H1 a xs)/\R (Iel K a) H1)\/((∃xs,SqT K H1 a xs)/\R (Iet K a) H1))
theorem DG {X:Cx}{elts:List Expr}{kt:Nat}{tp p pos:Pos}{l:Expr}{tl:TE} (hg:Gl X "enumerate") (hm:X.mg "enumerate" = none) (hl:PE X l tl) (hs:starEach [l] X.env=[(false,eval l X.env)]:=by rfl) :
  PI X (.Tuple elts kt tp) (.Call (.Name "enumerate" p) [l] [] pos) (GY X.K tl):=by
 intro pins s σ H R I h
 have h':DM tl Hk σ H (fun vs H1=>match vs with
  | [x]=>∃a,x=.ref a/\(((∃xs,SqL X.K H1 a xs)/\R (Iel X.K a) H1)\/((∃xs,SqT X.K H1 a xs)/\R (Iet X.K a) H1))
  | _=>False):=h
 refine Call_ (jh I hg hm PyProof.Rows.boot_enumerate (Nr (thn (jU hl qS hs pos pins s σ H _ I h') fun us s1 ⟨vs,H1,I1,r1,q1⟩=>?_) hs rfl))
 cases r1 with
 | nil=>simp_all
 | cons r rr=>
  cases rr with
  | cons _ _=>simp_all
  | nil=>
   obtain⟨a,rfl,q⟩:=q1
   cases r
   have fp:∀{h':Heap},∀b∈[s1.heap.objs.size+1,s1.heap.objs.size],jf X pins H1 b:=fun{h'} b hb=>by
    have hb':s1.heap.objs.size<=b:=by
     grind
    exact I1.Bq hb' (I1.hok.fresh hb')
   rcases q with⟨⟨xs,hq⟩,q⟩ | ⟨⟨xs,hq⟩,q⟩
   ·obtain⟨its,rv,pl,hz⟩:=I1.list hq
    refine call_enumerate_list pl.isList fun h2 z1 z2 hsz kp=>Pb (s:={ s1 with heap:=h2 }) z1 ?_
    exact⟨s1.heap.objs.size+1,[s1.heap.objs.size+1,s1.heap.objs.size],_,_,H1,rfl,I1.kept kp,u9 (Nat.succ_ne_self _),⟨⟨_,z1⟩,z2⟩,fp (h':=h2),q⟩
   ·obtain⟨its,rv,pl,hz⟩:=I1.tuple hq
    refine G0 (show s1.heap.IsTuple a its.toArray from pl) fun h2 z1 z2 hsz kp=>Pb (s:={ s1 with heap:=h2 }) z1 ?_
    exact⟨s1.heap.objs.size+1,[s1.heap.objs.size+1,s1.heap.objs.size],_,_,H1,rfl,I1.kept kp,vI (Nat.succ_ne_self _),⟨⟨_,z1⟩,z2⟩,fp (h':=h2),q⟩
noncomputable def jv (nt:Nat) (ix:List Nat) (σ:St):St:=Mq nt none++ix.map fun i=>(σ[i]?).join
noncomputable def eE (nt:Nat) (ix:List Nat) (σ σ':St):Prop:=∃ts:St,ts.length=nt/\σ'=ts++ix.map fun i=>(σ[i]?).join
noncomputable abbrev ET (J:It) (nt:Nat) (ix:List Nat) (σ:St) (tg:TG) (tt:TT) (te:TE) (acc:Addr) (H1:Hp) (Q:VK):Prop:=
 ∃W:Nat->Nat->List V->Hp->Prop,(∃m,W 0 m [] (upd H1 acc (.lst [])))/\∀i m ys H,W i m ys H →
  (J.stop i H/\Q (.ref acc) H)\/(J.go i H/\∀σ0 x H',eE nt ix σ σ0->J.yld i H x H'->tg x σ0 H' fun σ2 Hn=>eE nt ix σ σ2/\tt σ2 Hn fun b H2=>if b=true then te σ2 H2 fun y H3=>
    H3 acc=some (.lst ys)/\ys.length<sizeLine/\∃m',m'<m/\W (i+1) m' (ys++[y]) (upd H3 acc (.lst (ys++[y])))
   else ∃m',m'<m/\W (i+1) m' ys H2)
noncomputable def mG (wi:TI) (nt:Nat) (ix:List Nat) (tg:TG) (tt:TT) (te:TE):TE:=fun σ H Q=>wi σ H fun J H1=>∀acc,H1 acc=none->ET J nt ix σ tg tt te acc H1 Q
theorem oZ {X:Cx}{use:Option (LM->Sem Unit)}{Q2:LM->LP->Prop}{pins:List (Addr × Obj)}{s:LP}{σ:St}{H:Hp}{Q:VK}{elt iter tg:Expr}{tn':List Str}{tgr:TG}{ifs:List Expr}{scope osc:Pg}{pos:Pos}{wi:TI}{tt:TT}{te:TE} (ix:List Nat) (N':List Str)
  (hxe:X.xe=fun _ _=>False) (hc:X.calm=true) (ho:X.env.scope=osc) (hN:N'=tn'++ix.map fun i=>(X.N[i]?).getD ("" : Str)) (hnd:N'.Nodup)
  (hall:(∀y∈scope.names,y.2=.free->osc.names.lookup y.1=some .cell)/\(∀y∈scope.names,y.2≠.cell)/\scope.kind=.function/\(∀y∈scope.names,y.2=.local->scope.names.lookup y.1=some .local)/\(∀y∈N'.drop tn'.length,scope.names.lookup y=some .free))
  (hi:PI X tg iter wi) (hg:∀cl C au av fp,PG (aL X scope cl C au av fp N') tg tgr)
  (ht:∀cl C au av fp,PTs (aL X scope cl C au av fp N') ifs tt)
  (he:∀cl C au av fp,PE (aL X scope cl C au av fp N') elt te)
  (hs:∀x,foldedSetIterable iter X.env x=pure x) (I:Inv X pins σ H s) (h:mG wi tn'.length ix tgr tt te σ H Q)
  (hfin:∀(acc C:Addr) (H5:Hp) (s5:LP) (o:Obj),Inv X (pins++[(C,o)]) σ H5 s5->(∀x c,X.env.cells.lookup x=some c->c≠C)->X.au.heap.objs.size<=C->(∀p∈X.pn++pins,p.1≠C)->(∃m,∀h':Heap,h'.get? C=some o->h'.Ns C m)->Q (.ref acc) H5->compPost (model X.prog X.w) X.A X.xe use Q2 (.ref acc) C (.ok .next) s5) :
  wpAny (model X.prog X.w) X.A (comprehension (.ListComp elt [⟨tg,iter,ifs,0⟩] scope pos) scope X.env (firstIterPos [⟨tg,iter,ifs,0⟩] pos) (newList []) false (eval iter X.env) use) Q2 X.xe s:=by
 obtain⟨hfr,hcell,hkind,hnames,hcap⟩:=hall
 subst ho
 have outc:=fun y hy q=>hfr y hy q
 obtain⟨cl,hclos,hcl1,hcl2⟩:=gp fun y hy q=>I.ok.has y.1 (.inl (outc y hy q))
 refine OU rfl hs hclos hkind hnames (thn (hi pins s σ H _ I h) fun v s1 h1=>thn h1 fun itv s2 h2=>?_)
 obtain⟨it,fp,tn,J,H2,e,I2,T,st2,f2,rest⟩:=h2
 subst e
 have hf2:=I2.hok.fresh (LH _)
 obtain⟨W,⟨m0,w0⟩,turn⟩:=rest s2.heap.objs.size hf2
 refine Nl ?_
 have I3:=I2.AX (t':=s2.toks) .nil (Nj _)
 have keep3:∀b o,s2.heap.get? b=some o->(s2.heap.push { cls:=.type "list", dict:=none,data:=.seq ([]:List LM).toArray }).get? b=some o:=fun b o q=>ox _ q
 have fp3:=T.obj _ _ st2
 have st3:=T.keep _ _ _ st2 fun b _ o q=>keep3 b o q
 have fpn:∀b∈fp,(upd H2 s2.heap.objs.size (HO.lst [])) b=none:=fun b hb=>by
  obtain⟨o,q,_⟩:=fp3 b hb
  rw[aK (LZ (LI q))]
  exact(f2 b hb).1
 revert I3 keep3 st3 fpn w0
 generalize hS3:({ s2 with heap:=s2.heap.push { cls:=.type "list", dict:=none,data:=.seq ([]:List LM).toArray } }:LP)=s3
 generalize hH3:upd H2 s2.heap.objs.size (HO.lst [])=H3
 intro w0 I3 keep3 st3 fpn
 generalize s2.heap.objs.size=acc at *
 have e3:s2.heap.push { cls:=.type "list", dict:=none,data:=.seq ([]:List LM).toArray }=s3.heap:=by rw[<- hS3]
 have keep3':∀b o,s2.heap.get? b=some o->s3.heap.get? b=some o:=fun b o q=>by rw[<- e3];exact keep3 b o q
 have st3':tn 0 s3.heap:=by rw[<- e3];exact st3
 refine OH hcell (by intro y hy;simp at hy) (fun h₁ hns₁ hsb₁=>?_) hkind
 have hC:s3.heap.objs.size=s3.heap.objs.size:=rfl
 have keep4:∀b o,s3.heap.get? b=some o->h₁.get? b=some o:=fun b o q=>hsb₁.extBut b o (LZ (LI q)) (ox _ q)
 have fpC:∀b∈fp,b≠s3.heap.objs.size:=fun b hb=>by
  obtain⟨o,q,_⟩:=fp3 b hb
  exact LZ (LI (keep3' b o q))
 -- the block's context
 generalize hX':aL X scope cl s3.heap.objs.size s3 H3 fp N'=X'
 have hXp:X'.prog=X.prog:=by rw[<- hX'];rfl
 have hXw:X'.w=X.w:=by rw[<- hX'];rfl
 have hXK:X'.K=X.K:=by rw[<- hX'];rfl
 have hXA:X'.A=X.A:=by rw[<- hX'];rfl
 have hXe:X'.env=compEnvC scope cl s3.heap.objs.size X.env:=by rw[<- hX'];rfl
 have hXc:X'.calm=true:=by rw[<- hX'];exact hc
 have hXx:X'.xe=fun _ _=>False:=by rw[<- hX'];exact hxe
 have hXf:X'.fs=frs X.stack:=by rw[<- hX'];rfl
 have hXex:X'.ex=fp:=by rw[<- hX'];rfl
 have hXN:X'.N=N':=by rw[<- hX'];rfl
 have hXs:X'.au=s3:=by rw[<- hX'];rfl
 have hXH:X'.av=H3:=by rw[<- hX'];rfl
 have hXpn:X'.pn=[]:=by rw[<- hX'];rfl
 have okX:X'.Ok:=by
  rw[<- hX']
  refine⟨I3.ok.mod,hkind,I3.ok.glob,I3.ok.blt,LH _,fun a b c p q=>I3.ok.inj a b c (hcl1 a c p) (hcl1 b c q),fun y hy=>?_,fun _ _ z=>(by cases z),I3.ok.hd,I3.ok.frames,.inl rfl,fun b hb=>⟨fpC b hb,fun y c p=>(f2 b hb).2.2.2.2.1 y c (hcl1 y c p)⟩,
   I3.bs,L0 I3.ok.bsz I3.sz,fun b o p hb=>?_,fun b hb z=>?_,I3.stack,I3.lS⟩
  ·have hy':(relabel scope X.env).names.lookup y=some .cell\/(relabel scope X.env).names.lookup y=some .free:=hy
   have free:scope.names.lookup y=some .free->∃c,cl.lookup y=some c:=fun q=>hcl2 y (lookup_mem q)
   rcases hy' with q | q
   ·rcases cR q with z | ⟨z,_⟩
    ·exact absurd rfl (hcell _ (lookup_mem z))
    ·exact free z
   ·rcases cR q with z | ⟨_,z⟩
    ·exact free z
    ·cases z
  ·rcases(f2 b hb).2.2.2.1 with z | z
   ·exact I3.ok.vo b o p z
   ·exact absurd (Ma (LI p) (L0 I3.ok.bsz z)) (MN _)
  ·rcases LR.mp (I3.iF b z) with q | q
   ·exact(f2 b hb).2.1 q
   ·exact(f2 b hb).2.2.1 q
 have I4:∀tk,Inv X' [] (jv tn'.length ix σ) H3 { s3 with heap:=h₁,toks:=tk }:=fun tk=>by
  have hloc:=I3.loc
  refine⟨okX,by rw[hXs],I3.bare,?_,⟨fun y=>([]:List (Str × LM)).reverse.lookup y,by rw[hXe];exact hns₁,fun i y v e1 e2 e3=>?_⟩,fun y c p=>?_,?_,fun y c p=>?_,fun p hp=>?_,?_,?_⟩
  ·rw[hXf,hXex,hXH,hXs];exact Un.kept keep4
  ·rw[hXN,hN] at e1
   by_cases hit':i<tn'.length
   ·exfalso
    unfold jv at e2
    rw[LV (by simpa using hit'),Oj,if_pos hit'] at e2
    cases e2
   ·have e10:N'[i]?=some y:=by rw[hN];exact e1
    obtain⟨j,rfl⟩:∃j,i=tn'.length+j:=⟨i - tn'.length,by lia⟩
    have e1':(ix.map fun i=>(X.N[i]?).getD ("" : Str))[j]?=some y:=by
     rw[LY (by lia)] at e1
     rw[show tn'.length+j - tn'.length=j by lia] at e1
     exact e1
    have e2':(ix.map fun i=>(σ[i]?).join)[j]?=some (some v):=by
     unfold jv at e2
     rw[LY (by simp)] at e2
     simpa using e2
    rw[Me] at e1' e2'
    cases hj:ix[j]? with
    | none=>rw[hj] at e1';cases e1'
    | some i0=>
     rw[hj] at e1' e2'
     have e1'':(X.N[i0]?).getD ("" : Str)=y:=by simpa using e1'
     have e2'':(σ[i0]?).join=some v:=by simpa using e2'
     have hsv:σ[i0]?=some (some v):=by
      cases q:σ[i0]? with
      | none=>rw[q] at e2'';cases e2''
      | some z=>rw[q] at e2'';have:z=some v:=by simpa using e2''
                rw[this]
     have hlt:i0<X.N.length:=by
      have:=(Mu.mp hsv).1
      rw[I3.len] at this;exact this
     have hNy:X.N[i0]?=some y:=by
      rw[LU hlt] at e1'' ⊢
      simpa using e1''
     have hyt:y∈N'.drop tn'.length:=by
      refine Ms (i:=j) ?_
      rw[N2];exact e10
     have hyf:=hcap y hyt
     have hyc:=outc (y,.free) (lookup_mem hyf) rfl
     obtain⟨m,hn,hl⟩:=hloc
     obtain⟨u,r,l⟩:=hl i0 y v hNy hsv (.inr (.inl hyc))
     refine⟨u,r,?_⟩
     rcases l with⟨k1,_⟩ | ⟨_,c,p,z⟩
     ·have hyc':X.env.kindOf y=some .cell:=hyc
      rw[k1] at hyc';cases hyc'
     ·obtain⟨c',p'⟩:=hcl2 y (lookup_mem hyf)
      have pc:c'=c:=by
       have:=hcl1 y c' p'
       rw[p] at this;cases this;rfl
      subst pc
      refine .inr ⟨.inl ?_,c',by rw[hXe];exact p',?_⟩
      ·rw[hXe];exact cI I3.ok.kind hyf hyc
      ·obtain⟨o,q1,q2⟩:=z
       exact⟨o,keep4 c' o q1,q2⟩
  ·rw[hXe] at p
   obtain⟨v,o,q1,q2⟩:=I3.cell y c (hcl1 y c p)
   exact⟨v,o,keep4 c o q1,q2⟩
  ·rw[hXe];exact I3.hok.fresh (LH _)
  ·rw[hXe] at p;exact I3.gf y c (hcl1 y c p)
  ·rw[hXpn] at hp;cases hp
  ·rw[hXp,hXw];exact I3.hok.kept keep4
  ·rw[hXN,hN];simp[jv]
 -- the loop
 have stat:∀{H':Hp},(∀b∈fp,H' b=none)->∀b∈fp,jf X' [] H' b:=fun hn b hb=>by
  refine⟨hn b hb,by rw[hXe];exact fpC b hb,?_,.inl (by rw[hXex];exact hb),fun y c p=>?_,fun p hp=>by rw[hXpn] at hp;cases hp⟩
  ·rw[hXf];intro z
   rcases LR.mp (I3.iF b z) with q | q
   ·exact(f2 b hb).2.1 q
   ·exact(f2 b hb).2.2.1 q
  ·rw[hXe] at p;exact(f2 b hb).2.2.2.2.1 y c (hcl1 y c p)
 have fin:∀{H5:Hp} {s5:LP} {σ5:St},Inv X' [] σ5 H5 s5->Q (.ref acc) H5->compPost (model X.prog X.w) X.A X.xe use Q2 (.ref acc) s3.heap.objs.size (.ok .next) s5:=fun{H5 s5 σ5} I5 q=>by
  obtain⟨m,hn,_⟩:=I5.loc
  rw[hXe] at hn
  have hn':s5.heap.Ns s3.heap.objs.size m:=hn
  obtain⟨oC,esC,epC,hC1,hC2,hC3⟩:=hn'
  have u5:=I5.base
  rw[hXf,hXex,hXH,hXs] at u5
  have fr:H5 s3.heap.objs.size=none:=by have:=I5.free;rw[hXe] at this;exact this
  have hok5:=I5.hok
  rw[hXp,hXw] at hok5
  have hos:s5.os=s3.os:=by have:=I5.os;rw[hXs] at this;exact this
  have IX:Inv X pins σ H5 s5:=I3.oQ (s':=s5) (ch:=fp) hos u5 hok5 I5.bare (fun b hb=>by
   obtain⟨g0,g1,g2,g3,g4,g5⟩:=f2 b hb
   exact⟨g3,g1,g4,g5⟩)
  have cC:∀x c,X.env.cells.lookup x=some c->c≠s3.heap.objs.size:=fun x c z e=>by
   obtain⟨v,q⟩:=I3.cell x c z
   exact absurd q.lt (by rw[e];exact MN _)
  have pC:∀p∈X.pn++pins,p.1≠s3.heap.objs.size:=fun p hp e=>by
   have:=LI (I3.pin p hp).1
   rw[e] at this
   exact MN _ this
  refine hfin acc s3.heap.objs.size H5 s5 oC (IX.iS fun p hp=>?_) cC I3.sz pC ⟨m,fun h' z=>⟨oC,esC,epC,z,hC2,hC3⟩⟩ q
  rcases Ml.mp hp with z | z
  ·exact IX.pin p (tv _ z)
  ·have e:=LX.mp z
   subst e
   refine⟨hC1,fr,NR I3.lt,I3.Cb (LH _),fun v e=>?_⟩
   have e':oC.data=.cell v:=e
   rw[hC2] at e';cases e'
 have loop:∀tk,codeAny (model X.prog X.w) X.A (.compLoop (.ListComp elt [⟨tg,iter,ifs,0⟩] scope pos) 0 (.ref it) (.ref acc) (compEnvC scope cl s3.heap.objs.size X.env))
   (compPost (model X.prog X.w) X.A X.xe use Q2 (.ref acc) s3.heap.objs.size) { s3 with heap:=h₁,toks:=tk }:=fun tk=>by
  refine sx (fun n s'=>∃i ys σ' H',Inv X' [] σ' H' s'/\eE tn'.length ix σ σ'/\tn i s'.heap/\(∀b∈fp,H' b=none)/\W i n ys H') (fun n s5 h5=>?_) m0
   ⟨0,[],jv tn'.length ix σ,H3,I4 tk,⟨_,Pj,rfl⟩,T.keep _ _ _ st3' fun b _ o q=>keep4 b o q,fpn,w0⟩
  obtain⟨i,ys,σ5,H5,I5,hσ,st5,fr5,w5⟩:=h5
  rcases turn i n ys H5 w5 with⟨stop,q⟩ | ⟨go,step⟩
  ·have d:=T.done X' hXp hXw hXK hXc i [] s5 σ5 H5 (fun _ _=>False) I5 (stat fr5) st5 stop
   rw[hXA] at d
   refine thn d fun r s6 ⟨hr,I6⟩=>?_
   subst hr
   exact fin I6 q
  ·have d:=T.item X' hXp hXw hXK hXc i [] s5 σ5 H5 (fun _ _=>False) I5 (stat fr5) st5 go
   rw[hXA] at d
   refine thn d fun r s6 ⟨u,hr,h6⟩=>?_
   subst hr
   refine thn h6 fun _ s7 ⟨z,H7,I7,r7,y7,st7,fr7⟩=>?_
   have I7':=I7.pinned (stat fr7) (T.obj _ _ st7)
   have again:∀{H9:Hp} {s9:LP} {ys9:List V} {σ9:St},Inv X' ([]++fK fp s7.heap) σ9 H9 s9->eE tn'.length ix σ σ9->(∃m',m'<n/\W (i+1) m' ys9 H9)->∃m',m'<n/\∃i ys σ' H',Inv X' [] σ' H' s9/\eE tn'.length ix σ σ'/\tn i s9.heap/\(∀b∈fp,H' b=none)/\W i m' ys H':=fun{H9 s9 ys9 σ9} I9 c9 ⟨m',hm,w9⟩=>by
    refine⟨m',hm,i+1,ys9,_,H9,I9.eO,c9,T.keep _ _ _ st7 fun b hb o e=>(I9.pin (b,o) (tv _ (tv _ (bW hb e)))).1,fun b hb=>?_,w9⟩
    obtain⟨o,e,_⟩:=T.obj _ _ st7 b hb
    exact(I9.pin (b,o) (tv _ (tv _ (bW hb e)))).2.1
   have ht':=ht cl s3.heap.objs.size s3 H3 fp
   have he':=he cl s3.heap.objs.size s3 H3 fp
   have hg':=hg cl s3.heap.objs.size s3 H3 fp
   rw[hX'] at ht' he' hg'
   rw[<- hXe]
   have a0:=hg' _ s7 σ5 H7 z u _ I7' r7 (step σ5 z H7 hσ y7)
   rw[hXp,hXw,hXA,hXx] at a0
   refine thn a0 fun _ s8 ⟨σ8,H8,I8,c8,q8⟩=>?_
   have a1:=ht' _ s8 _ H8 _ I8 q8
   rw[hXp,hXw,hXA,hXx] at a1
   refine thn a1 fun b s9 ⟨H9,I9,q9⟩=>?_
   cases b with
   | false=>exact again I9 c8 q9
   | true=>
    have a2:=he' _ s9 _ H9 _ I9 q9
    rw[hXp,hXw,hXA,hXx] at a2
    refine thn a2 fun yv s10 ⟨y,H10,I10,r10,q1,q2,q3⟩=>?_
    have a3:=gH (X:=X') _ s10 _ H10 (.ref acc) [y] (.ref acc) [yv] (fun _ Hq=>∃m',m'<n/\W (i+1) m' (ys++[y]) Hq) I10 rfl (.cons r10 .nil) ⟨acc,ys,y,rfl,rfl,q1,q2,q3⟩
    rw[hXp,hXw,hXA,hXx] at a3
    exact thn a3 fun _ s11 ⟨_,H11,I11,_,q11⟩=>again I11 c8 q11
 refine O5 (loop _) ?_
 exact T.self _ 0 _ _ _ (T.keep _ _ _ st3' fun b _ o q=>keep4 b o q) (loop _)
section
variable {X:Cx}{elt iter tg:Expr}{tn':List Str}{tgr:TG}{ifs:List Expr}{scope osc:Pg}{pos:Pos}{wi:TI}{tt:TT}{te:TE}
theorem ui (ix) (tn' N')
  (hxe:X.xe=fun _ _=>False) (hc:X.calm=true) (ho:X.env.scope=osc) (hN:N'=tn'++ix.map fun i=>(X.N[i]?).getD ("" : Str)) (hnd:N'.Nodup)
  (hall:(∀y∈scope.names,y.2=.free->osc.names.lookup y.1=some .cell)/\(∀y∈scope.names,y.2≠.cell)/\scope.kind=.function/\(∀y∈scope.names,y.2=.local->scope.names.lookup y.1=some .local)/\(∀y∈N'.drop tn'.length,scope.names.lookup y=some .free))
  (hi:PI X tg iter wi) (hg:∀cl C au av fp,PG (aL X scope cl C au av fp N') tg tgr)
  (ht:∀cl C au av fp,PTs (aL X scope cl C au av fp N') ifs tt)
  (he:∀cl C au av fp,PE (aL X scope cl C au av fp N') elt te)
  (hs:∀x,foldedSetIterable iter X.env x=pure x:=by intro _;rfl) :
  PE X (.ListComp elt [⟨tg,iter,ifs,0⟩] scope pos) (mG wi tn'.length ix tgr tt te):=by
 intro pins s σ H Q I h
 have e:eval (.ListComp elt [⟨tg,iter,ifs,0⟩] scope pos) X.env=comprehension (.ListComp elt [⟨tg,iter,ifs,0⟩] scope pos) scope X.env (firstIterPos [⟨tg,iter,ifs,0⟩] pos) (newList []) false (eval iter X.env) none:=by
  rfl
 refine oZ ix N' hxe hc ho hN hnd hall hi hg ht he hs I h fun acc C H5 s5 o I5 cC hC pC hm q=>?_
 obtain⟨m,hm⟩:=hm
 exact⟨m,hm _ (I5.pin (C,o) (tv _ (tv _ (LX.mpr rfl)))).1,fun h' hs'=>⟨.ref acc,H5,I5.CW cC hC pC hs',rfl,q⟩⟩
theorem ug {py spos:Pos} (ix) (tn' N')
  (hxe:X.xe=fun _ _=>False) (hc:X.calm=true) (ho:X.env.scope=osc) (hN:N'=tn'++ix.map fun i=>(X.N[i]?).getD ("" : Str)) (hnd:N'.Nodup)
  (hall:(∀y∈scope.names,y.2=.free->osc.names.lookup y.1=some .cell)/\(∀y∈scope.names,y.2≠.cell)/\scope.kind=.function/\(∀y∈scope.names,y.2=.local->scope.names.lookup y.1=some .local)/\(∀y∈N'.drop tn'.length,scope.names.lookup y=some .free))
  (hi:PI X tg iter wi) (hg:∀cl C au av fp,PG (aL X scope cl C au av fp N') tg tgr)
  (ht:∀cl C au av fp,PTs (aL X scope cl C au av fp N') ifs tt)
  (he:∀cl C au av fp,PE (aL X scope cl C au av fp N') elt te)
  (hNN:X.N.Nodup) (hy:X.N[i]?=some y) (hl:X.env.scope.names.lookup y=some .local)
  (hsw:swapsWith (.ListComp elt [⟨tg,iter,ifs,0⟩] scope pos) (some (.Name y py)) spos.line X.env=pure true:=by rfl)
  (hs:∀x,foldedSetIterable iter X.env x=pure x:=by intro _;rfl) :
  PS X (.Assign [.Name y py] (.ListComp elt [⟨tg,iter,ifs,0⟩] scope pos) spos) (Ce (mG wi tn'.length ix tgr tt te) (dD i)):=by
 intro pins s σ H D I h
 rw[exec_Assign_Name_used _ _ _ _ hsw]
 refine k3 (Og ?_)
 refine k3 ?_
 refine k3 (oZ ix N' hxe hc ho hN hnd hall hi hg ht he hs I h fun acc C H5 s5 o I5 cC hC pC hm q=>?_)
 obtain⟨m,hm⟩:=hm
 refine P1 (iM (v:=.ref acc) I5 hNN hy (.inl hl) rfl (fun s6 I6=>?_) (.inr hl))
 refine⟨m,hm _ (I6.pin (C,o) (tv _ (tv _ (LX.mpr rfl)))).1,fun h' hs'=>?_⟩
 exact LJ (LJ ⟨_,H5,I6.CW cC hC pC hs',q⟩)
end
section
variable {κ:Type} [DecidableEq κ]
noncomputable def rg (kvs:List (κ × V)) (k:κ):Option V:=(kvs.find? fun kv=>decide (kv.1=k)).map (·.2)
theorem rL {p:κ × V}{r:List (κ × V)}{k:κ} (e:p.1=k):rg (p::r) k=some p.2:=by simp[rg,List.find?_cons,e]
theorem sk {k:κ} (e:¬ p.1=k):rg (p::r) k=rg r k:=by simp[rg,List.find?_cons,e]
end
end L2
namespace L2.FE
open PySem PySem.Spec PyProof.Rows
inductive D where
 | non | bl (b:Bool) | int (i:Int) | str (x:Str) | tup (ds:List D) | frl (ds:List D) | ref (n:Nat) | fn (x:Str) | edic | scr (ds:List D) | exc (c:Str) (fs:List (Str × Int)) | clo (f:Str) (ds:List D)
inductive O where
 | lst (ds:List D) | set (ns:List Int) | dic (kvs:List (Key × D)) | dit (kvs:List (List Key × D))
noncomputable abbrev Hh:=List O
noncomputable abbrev En:=List (Option D)
structure Xc where
 cls:Str
 fs:List (Str × Int)
inductive R (β:Type) where
 | ok (b:β) (h:Hh)
 | err (x:Xc) (h:Hh)
 | bad
noncomputable def R.bind (r:R β) (f:β->Hh->R γ):R γ:=match r with
 | .ok b h=>f b h
 | .err x h=>.err x h
 | .bad=>.bad
inductive Fl where
 | nx (e:En) | bk (e:En) | ct (e:En) | rt (d:D)
noncomputable abbrev ME:=En->Hh->R D
noncomputable abbrev MT:=En->Hh->R Bool
noncomputable abbrev MA:=En->Hh->R (List D)
noncomputable abbrev MS:=En->Hh->R Fl
noncomputable def Fro (K:gV) (H:Hp) (p:Addr) (vs:List V):Prop:=
 (∃o,H p=some (.frz o (.lst vs)))\/∃o its n,K.lookup p=some o/\o.cls=.type "list" /\ o.dict=none/\o.data=.seq its n/\its.size<=sizeLine/\Vals vs its.toList
theorem Fro.sq {K:gV} (h:Fro K H p vs):SqL K H p vs:=by
 rcases h with⟨o,h⟩ | h
 ·exact .inl (.inr ⟨o,h⟩)
 ·exact .inr h
noncomputable def Fr1 (H:Hp) (p:Addr) (vs:List V):Prop:=∃o,H p=some (.frz o (.lst vs))
theorem Fr1.fro {K:gV} (h:Fr1 H p vs):Fro K H p vs:=.inl h
theorem Fr1.sq {K:gV}{H:Hp}{p:Addr}{vs:List V} (h:Fr1 H p vs):SqL K H p vs:=let ⟨o,h⟩:=h;.inl (.inr ⟨o,h⟩)
theorem Fr1.rd (h:Fr1 H p vs):Rd H p (.lst vs):=.inr h
noncomputable def AtO (p:Addr) (o:Obj):HO:=.frz o (.ext fun h=>h.get? p=some o)
noncomputable def XFs (H:Hp) (dc:Option Addr) (fs:List (Str × Int)):Prop:=(dc=none/\fs=[])\/∃dx od,dc=some dx/\H dx=some (.frz od (.xd (fs.map fun x=>(x.1,V.int x.2))))
noncomputable def jM (H:Hp) (clos:List (Str × Addr)):List Str->List V->Prop:=Paired fun y v=>∃c o u,clos.lookup y=some c/\H c=some (AtO c o)/\o.data=.cell (some u)/\RelV v u
structure uy (f x qual) (ys) (params) (body:Expr) (scope:Pg):Prop where
 tx:∃(p0 p2 p3:Pos) (qs:List (Str × Pos)),qs.map (·.1)=ys/\body=.Call (.Name f p0) (qs.map (fun y=>Rr y.1 y.2)++[.Name x p2]) [] p3
 kind:scope.kind=.function
 co:scope.isCoroutine=false
 gen:scope.isGenerator=false
 ES:∀z∈scope.names,z.2≠.cell
 glob:scope.names.lookup f=some .globalImplicit
 loc:scope.names.lookup x=some .local
 free:∀y∈ys,scope.names.lookup y=some .free/\(y == ("__debug__" : Str))=false/\(y == ("__classdict__" : Str))=false
 nd:(f == ("__debug__" : Str))=false/\(x == ("__debug__" : Str))=false
 bind:∀clos pm cdv ctv u,bindArgs (PySem.W.kla_fn "<lambda>" qual params body scope clos pm cdv ctv) ⟨[u],[]⟩=pure [(x,u)]
noncomputable def DQ (f:Str) (clos:List (Str × Addr)) (ys:List Str) (o:Obj) (c':Addr) (qual:Str):Prop:=
 ∃params body scope pm ctv x,o=NG "<lambda>" qual params body scope clos pm c' ctv/\uy f x qual ys params body scope
mutual
inductive aJ (K) (g) (α) (H):D->V->Prop where
 | non:aJ K g α H .non .non
 | bl (b):aJ K g α H (.bl b) (.bl b)
 | int (i):aJ K g α H (.int i) (.int i)
 | str (x):aJ K g α H (.str x) (.str x)
 | ref:α[n]?=some p->aJ K g α H (.ref n) (.ref p)
 | tup {ds p vs}:H p=some (.tup vs)->ax K g α H ds vs->aJ K g α H (.tup ds) (.ref p)
 | frl {ds p vs}:Fr1 H p vs->ax K g α H ds vs->aJ K g α H (.frl ds) (.ref p)
 | scr {ds p vs}:Fro K H p vs->ax K g α H ds vs->aJ K g α H (.scr ds) (.ref p)
 | fn:g x=some f->aJ K g α H (.fn x) (.ref f)
 | edic:H p=some (.frz o (.dK []))->aJ K g α H .edic (.ref p)
 | exc:g c=some C->H p=some (AtO p o)->o.cls=.ref C->(∃vs,o.data=.fields vs)->XFs H o.dict fs->aJ K g α H (.exc c fs) (.ref p)
 | clo {f ds p o clos ys vs c' oc qual t vc}:H p=some (AtO p o)->DQ f clos ys o c' qual->H c'=some (AtO c' oc)->oc.data=.fields vc->vc[1]?=some (.str qual t)->jM H clos ys vs->ax K g α H ds vs->aJ K g α H (.clo f ds) (.ref p)
inductive ax (K) (g:Str->Option Addr) (α:List Addr) (H:Hp):List D->List V->Prop where
 | nil:ax K g α H [] []
 | cons:aJ K g α H d v->ax K g α H ds vs->ax K g α H (d::ds) (v::vs)
end
structure Ex0 (K:gV) (α) (H:Hp) (α':List Addr) (H':Hp):Prop where
 pre:α <+: α'
 tup:∀p xs , H p=some (.tup xs)->H' p=some (.tup xs)
 frz:∀p o u , H p=some (.frz o u)->H' p=some (.frz o u)
 tbl:∀p ps , H p=some (.tbl ps)->∃more,H' p=some (.tbl (ps++more))
theorem Ex0.fro {K:gV} (e:Ex0 K α H α' H') (p) (xs) (h:Fro K H p xs):Fro K H' p xs:=by
 rcases h with⟨o,h⟩ | h
 ·exact .inl ⟨o,e.frz _ _ _ h⟩
 ·exact .inr h
theorem Ex0.fr1 {K:gV} (e:Ex0 K α H α' H') (p) (xs) (h:Fr1 H p xs):Fr1 H' p xs:=let ⟨o,h⟩:=h;⟨o,e.frz _ _ _ h⟩
structure Ext (K) (α) (H) (α') (H'):Prop extends Ex0 K α H α' H' where
 kept:∀p o,H p=some o->p∉α->(∀ps,o≠.tbl ps)->H' p=some o
 new:∀p,p∈α'->p∉α->H p=none
section
variable {K:gV}{g:Str->Option Addr}{α α' α'':List Addr}{H H' H'':Hp}
theorem Ext.keep (e:Ext K α H α' H') (p) (o) (h:H p=some o) (n:p∉α) (t:∀ps,o≠.tbl ps:=by intro _ z;cases z):H' p=some o:=e.kept p o h n t
theorem Ext.stays (e:Ext K α H α' H'){p:Addr}{o:HO} (h:H p=some o) (n:p∉α):H' p≠none:=by
 cases o with
 | tbl ps=>obtain⟨m,q⟩:=e.tbl p ps h;simp_all
 | _=>rw[e.keep p _ h n];simp
theorem Ex0.refl:Ex0 K α H α H:=⟨OO _,fun _ _ h=>h,fun _ _ _ h=>h,fun _ ps h=>⟨#[],by grind⟩⟩
theorem Ex0.trans (a:Ex0 K α H α' H') (b:Ex0 K α' H' α'' H''):Ex0 K α H α'' H'':=⟨a.pre.trans b.pre,fun p xs h=>b.tup p xs (a.tup p xs h),fun p o u h=>b.frz p o u (a.frz p o u h),fun p ps h=>by
  obtain⟨m1,e1⟩:=a.tbl p ps h
  obtain⟨m2,e2⟩:=b.tbl p _ e1
  grind⟩
theorem Ext.refl:Ext K α H α H:=⟨.refl,fun _ _ h _ _=>h,fun _ h n=>absurd h n⟩
theorem Ext.trans (a:Ext K α H α' H') (b:Ext K α' H' α'' H''):Ext K α H α'' H'':=⟨a.toEx0.trans b.toEx0,fun p o h n t=>b.kept p o (a.kept p o h n t) (fun z=>by rw[a.new p z n] at h;cases h) t,fun p z n=>by
  by_cases q:p∈α'
  ·exact a.new p q n
  ·have:=b.new p z q
   cases e:H p with
   | none=>rfl
   | some o=>exact absurd this (a.stays e n)⟩
theorem Ex0.get (e:Ex0 K α H α' H'){n:Nat}{p:Addr} (h:α[n]?=some p):α'[n]?=some p:=by
 obtain⟨t,rfl⟩:=e.pre
 have hl:n<α.length:=by
  by_cases hl:n<α.length
  ·exact hl
  ·rw[MJ (by lia)] at h;cases h
 rw[LV hl];exact h
mutual
theorem aJ.ex0 (e:Ex0 K α H α' H'):∀{d:D}{v:V},aJ K g α H d v->aJ K g α' H' d v
 | _,_,.non=>.non
 | _,_,.bl b=>.bl b
 | _,_,.int i=>.int i
 | _,_,.str x=>.str x
 | _,_,.ref h=>.ref (e.get h)
 | _,_,.tup h r=>.tup (e.tup _ _ h) (ax.ex0 e r)
 | _,_,.frl h r=>.frl (e.fr1 _ _ h) (ax.ex0 e r)
 | _,_,.scr h r=>.scr (e.fro _ _ h) (ax.ex0 e r)
 | _,_,.fn h=>.fn h
 | _,_,.edic h=>.edic (e.frz _ _ _ h)
 | _,_,.exc hg h hc hd hf=>.exc hg (e.frz _ _ _ h) hc hd (hf.elim .inl fun⟨dx,od,a,b⟩=>.inr ⟨dx,od,a,e.frz _ _ _ b⟩)
 | _,_,.clo h l hc hd hv cs r=>.clo (e.frz _ _ _ h) l (e.frz _ _ _ hc) hd hv (L2.Paired.rB cs fun _ _ ⟨c,o,u,l,a,b⟩=>⟨c,o,u,l,e.frz _ _ _ a,b⟩) (ax.ex0 e r)
theorem ax.ex0 (e:Ex0 K α H α' H'):∀{ds:List D}{vs:List V},ax K g α H ds vs->ax K g α' H' ds vs
 | _,_,.nil=>.nil
 | _,_,.cons r t=>.cons (aJ.ex0 e r) (ax.ex0 e t)
end
theorem aJ.ext (e:Ext K α H α' H') (r:aJ K g α H d v):aJ K g α' H' d v:=r.ex0 e.toEx0
theorem ax.ext (e:Ext K α H α' H') (r:ax K g α H d v):ax K g α' H' d v:=r.ex0 e.toEx0
theorem ax.length:∀{ds:List D}{vs:List V},ax K g α H ds vs->ds.length=vs.length
 | _,_,.nil=>rfl
 | _,_,.cons _ t=>by simp[ax.length t]
theorem ax.append:∀{ds es:List D}{vs us:List V},ax K g α H ds vs->ax K g α H es us->ax K g α H (ds++es) (vs++us)
 | _,_,_,_,.nil,s=>s
 | _,_,_,_,.cons r t,s=>.cons r (ax.append t s)
theorem ax.get:∀{ds:List D}{vs:List V}{i:Nat}{d:D},ax K g α H ds vs->ds[i]?=some d->∃v,vs[i]?=some v/\aJ K g α H d v
 | _,_,_,_,.nil,e=>by simp at e
 | _,_,0,_,.cons r _,e=>by simp_all
 | _,_,i+1,d,.cons _ t,e=>by
  obtain⟨u,h1,h2⟩:=ax.get t (by simpa using e)
  simp_all
theorem ax.set {d:D}{v:V} (r:aJ K g α H d v):∀{ds:List D}{vs:List V} (i:Nat),ax K g α H ds vs->ax K g α H (ds.set i d) (vs.set i v)
 | _,_,_,.nil=>.nil
 | _,_,0,.cons _ t=>.cons r t
 | _,_,i+1,.cons q t=>.cons q (ax.set r i t)
theorem ax.take:∀{ds:List D}{vs:List V} (n:Nat),ax K g α H ds vs->ax K g α H (ds.take n) (vs.take n)
 | _,_,0,_=>.nil
 | _,_,_+1,.nil=>.nil
 | _,_,n+1,.cons r t=>.cons r (ax.take n t)
theorem ax.drop:∀{ds:List D}{vs:List V} n , ax K g α H ds vs->ax K g α H (ds.drop n) (vs.drop n)
 | _,_,0,r=>r
 | _,_,_+1,.nil=>.nil
 | _,_,n+1,.cons _ t=>ax.drop n t
theorem ax.ints (ns:List Int):ax K g α H (ns.map D.int) (ns.map V.int):=by
 induction ns with
 | nil=>exact .nil
 | cons n r ih=>exact .cons (.int n) ih
theorem ax.xw:∀{ns:List Int}{vs:List V},ax K g α H (ns.map D.int) vs->vs=ns.map V.int
 | [],_,.nil=>rfl
 | n::r,_,.cons (.int _) t=>by rw[ax.xw t];rfl
theorem ax.flat {ds:List D}{vs:List V} (r:ax K g α H ds vs):∀k,ax K g α H (Mq k ds).flatten (Mq k vs).flatten
 | 0=>.nil
 | k+1=>by rw[OP];exact r.append (ax.flat r k)
end
noncomputable def OAt (K:gV) (g:Str->Option Addr) (α:List Addr) (H:Hp) (p:Addr):O->Prop
 | .lst ds=>∃vs,H p=some (.lst vs)/\ax K g α H ds vs
 | .set ns=>H p=some (.set (fun k=>ns.any (· == k)) ns.length)
 | .dic kvs=>∃kws,H p=some (.dK kws)/\Paired (fun(a:Key × D) (b:Key × V)=>a.1=b.1/\aJ K g α H a.2 b.2) kvs kws
 | .dit kvs=>∃kws,H p=some (.dT kws)/\Paired (fun(a:List Key × D) (b:List Key × V)=>a.1=b.1/\aJ K g α H a.2 b.2) kvs kws
noncomputable def tD (H:Hp) (q:Addr × Pos × Str):Prop:=H q.1=some (.tbl #[])\/∃c' oc vc t,H q.1=some (.tbl #[rawInt q.2.1.line,rawInt q.2.1.col,.ref c'])/\H c'=some (AtO c' oc)/\oc.data=.fields vc/\vc[1]?=some (.str q.2.2 t)
noncomputable def BE (fd:Pf):Option Pos:=match fd.body with
 | .stmts b=>(match b.getLast? with
  | some (.Return (some (.Lambda _ _ _ pos)) _)=>some pos
  | some (.Return (some (.Call _ es _ _)) _)=>(match es.getLast? with | some (.Lambda _ _ _ pos)=>some pos | _=>none)
  | _=>none)
 | _=>none
noncomputable def jN (K:gV) (f:Addr):Option (Addr × Pos × Str):=match K.lookup f with
 | some ⟨_,_,.func fd,_⟩=>(match BE fd,fd.code with
  | some pos,.ref c=>(match K.lookup c with
   | some ⟨_,_,.fields vs,_⟩=>(match (vs[11]?:Option LM) with | some (.ref P)=>some (P,pos,fd.qualname++".<locals>." ++ "<lambda>") | _=>none)
   | _=>none)
  | _,_=>none)
 | _=>none
noncomputable def iJ (K:gV) (H:Hp):Prop:=∀f P,jN K f=some P->tD H P
structure aU (K) (g) (α:List Addr) (H) (h:Hh):Prop where
 len:α.length=h.length
 inj:∀(n m:Nat) p , α[n]?=some p->α[m]?=some p->n=m
 here:∀(n:Nat) p o , α[n]?=some p->h[n]?=some o->OAt K g α H p o
 tab:iJ K H
section
variable {K:gV}{g:Str->Option Addr}{α α':List Addr}{H H':Hp}{h:Hh}
theorem Paired.II (e:Ex0 K α H α' H') (r:Paired (fun(a:Key × D) (b:Key × V)=>a.1=b.1/\aJ K g α H a.2 b.2) kvs kws) :
  Paired (fun(a:Key × D) (b:Key × V)=>a.1=b.1/\aJ K g α' H' a.2 b.2) kvs kws:=L2.Paired.rB r fun _ _ q=>⟨q.1,q.2.ex0 e⟩
theorem Paired.Ii (e:Ex0 K α H α' H') (r:Paired (fun(a:List Key × D) (b:List Key × V)=>a.1=b.1/\aJ K g α H a.2 b.2) kvs kws) :
  Paired (fun(a:List Key × D) (b:List Key × V)=>a.1=b.1/\aJ K g α' H' a.2 b.2) kvs kws:=L2.Paired.rB r fun _ _ q=>⟨q.1,q.2.ex0 e⟩
theorem tD.mono (t:tD H P) (a:∀b ps,H b=some (.tbl ps)->H' b=some (.tbl ps)) (z:∀b o u,H b=some (.frz o u)->H' b=some (.frz o u)):tD H' P:=by
 rcases t with h | ⟨c',oc,vc,tk,h,hc,hd⟩
 ·exact .inl (a _ _ h)
 ·exact .inr ⟨c',oc,vc,tk,a _ _ h,z _ _ _ hc,hd⟩
theorem iJ.mono (t:iJ K H) (a:∀b ps,H b=some (.tbl ps)->H' b=some (.tbl ps)) (z:∀b o u,H b=some (.frz o u)->H' b=some (.frz o u)):iJ K H':=fun f P e=>(t f P e).mono a z
theorem iJ.upd (t:iJ K H) (n:H p=none\/∃u,H p=some u/\(∀ys,u≠.tup ys)/\(∀w ys,u≠.frz w ys)/\∀ps,u≠.tbl ps):iJ K (upd H p o):=by
 have ne:∀q u,H q=some u->((∃w ys,u=.frz w ys)\/∃ps,u=.tbl ps)->q≠p:=by
  grind
 intro f P e
 rcases t f P e with h | ⟨c',oc,vc,tk,h,hc,hd⟩
 ·exact .inl (by rw[aK (ne _ _ h (.inr ⟨_,rfl⟩))];exact h)
 ·exact .inr ⟨c',oc,vc,tk,by rw[aK (ne _ _ h (.inr ⟨_,rfl⟩))];exact h,by rw[aK (ne _ _ hc (.inl ⟨_,_,rfl⟩))];exact hc,hd⟩
theorem OAt.isS {p:Addr}{o:O} (h:OAt K g α H p o):∃u,H p=some u/\(∀ys,u≠.tup ys)/\(∀w ys,u≠.frz w ys)/\∀ps,u≠.tbl ps:=by
 cases o with
 | lst ds=>obtain⟨vs,e,_⟩:=h;simp_all
 | set n=>exact⟨_,h,fun _ z=>(nomatch z),fun _ _ z=>(nomatch z),fun _ z=>nomatch z⟩
 | dic kvs=>obtain⟨vs,e,_⟩:=h;simp_all
 | dit kvs=>obtain⟨vs,e,_⟩:=h;simp_all
theorem aU.mem (r:aU K g α H h) (hp:p∈α):∃u,H p=some u/\(∀ys,u≠.tup ys)/\(∀w ys,u≠.frz w ys)/\∀ps,u≠.tbl ps:=by
 obtain⟨n,hn,e⟩:=List.getElem_of_mem hp
 have hn':n<h.length:=by rw[<- r.len];exact hn
 exact(r.here n p _ (by simp_all) (LU hn')).isS
theorem OAt.ex0 (e:Ex0 K α H α' H') (h:OAt K g α H p o) (k:∀u,H p=some u->H' p=some u):OAt K g α' H' p o:=by
 cases o with
 | lst ds=>obtain⟨vs,a,r⟩:=h;exact⟨vs,k _ a,r.ex0 e⟩
 | set n=>exact k _ h
 | dic kvs=>obtain⟨kws,a,r⟩:=h;exact⟨kws,k _ a,Paired.II e r⟩
 | dit kvs=>obtain⟨kws,a,r⟩:=h;exact⟨kws,k _ a,Paired.Ii e r⟩
noncomputable def zT (H:Hp) (p:Addr):Prop:=H p=none\/∃u,H p=some u/\(∀ys,u≠.tup ys)/\(∀w ys,u≠.frz w ys)/\∀ps,u≠.tbl ps
theorem Ex0.upd (n:zT H p):Ex0 K α H α (upd H p o):=by
 have ne:∀q u,H q=some u->((∃ys,u=.tup ys)\/(∃w ys,u=.frz w ys)\/∃ps,u=.tbl ps)->q≠p:=by
  rintro q u e z rfl
  rcases n with n | ⟨u',e',n1,n2,n3⟩
  ·simp_all
  simp_all
 refine⟨OO _,fun q xs h=>?_,fun q o u h=>?_,fun q ps h=>⟨#[],?_⟩⟩
 ·rw[aK (ne q _ h (.inl ⟨_,rfl⟩))];exact h
 ·rw[aK (ne q _ h (.inr (.inl ⟨_,_,rfl⟩)))];exact h
 ·rw[aK (ne q _ h (.inr (.inr ⟨_,rfl⟩))),h];simp
theorem Ex0.more (e:Ex0 K α H α H') (l):Ex0 K α H (α++l) H':=⟨List.prefix_append _ _,e.tup,e.frz,e.tbl⟩
theorem Ext.fresh (n:H p=none):Ext K α H α (upd H p o):=⟨Ex0.upd (.inl n),fun q u h _ _=>by rw[aK (br h n)];exact h,fun _ z m=>absurd z m⟩
theorem Ext.push (n:H p=none):Ext K α H (α++[p]) (upd H p o):=⟨(Ex0.upd (.inl n)).more _,fun q u h _ _=>by rw[aK (br h n)];exact h,fun q z m=>by
 simp_all⟩
theorem aU.off {p:Addr}{o:HO} (r:aU K g α H h) (n:zT H p) (m:p∉α):aU K g α (upd H p o) h:=by
 refine⟨r.len,r.inj,fun k q u a b=>(r.here k q u a b).ex0 (Ex0.upd n) fun w e=>?_,r.tab.upd n⟩
 rw[aK];exact e
 rintro rfl;exact m (Ms a)
theorem aU.free (r:aU K g α H h) (n:H p=none):p∉α:=fun z=>by
 obtain⟨u,e,_⟩:=r.mem z
 simp_all
theorem aU.grow (r:aU K g α H h) (n:H p=none):aU K g α (upd H p o) h:=r.off (.inl n) (r.free n)
theorem aU.adopt {p:Addr}{u:O} (r:aU K g α H h) (n:p∉α) (a:OAt K g (α++[p]) H p u):aU K g (α++[p]) H (h++[u]):=by
 have old:∀{m:Nat} {q:Addr},(α++[p])[m]?=some q->(α[m]?=some q)\/(m=α.length/\q=p):=by
  intro m q h1
  by_cases hm:m<α.length
  ·rw[LV hm] at h1
   exact .inl h1
  ·have hl:m<(α++[p]).length:=by
    by_cases hl:m<(α++[p]).length
    ·exact hl
    ·rw[MJ (by lia)] at h1;cases h1
   have e:m=α.length:=by simp at hl;lia
   subst e
   simp at h1
   exact .inr ⟨rfl,h1.symm⟩
 refine⟨by simp[r.len],fun m k q h1 h2=>?_,fun m q w h1 h2=>?_,r.tab⟩
 ·rcases old h1 with a1 | ⟨e1,e2⟩
  ·rcases old h2 with a2 | ⟨e3,e4⟩
   ·exact r.inj m k q a1 a2
   ·rw[e4] at a1;exact absurd (Ms a1) n
  ·rcases old h2 with a2 | ⟨e3,e4⟩
   ·rw[e2] at a2;exact absurd (Ms a2) n
   ·rw[e1,e3]
 ·rcases old h1 with a1 | ⟨e1,e2⟩
  ·have hm:m<α.length:=by
    by_cases hl:m<α.length
    ·exact hl
    ·rw[MJ (by lia)] at a1;cases a1
   rw[LV (by rw[<- r.len];exact hm)] at h2
   exact(r.here m q w a1 h2).ex0 (Ex0.refl.more _) fun _ z=>z
  ·subst e1 e2
   rw[r.len] at h2
   simp at h2
   subst h2
   exact a
theorem aU.push (r:aU K g α H h) (n:H p=none) (a:OAt K g (α++[p]) (upd H p o) p u):aU K g (α++[p]) (upd H p o) (h++[u]):=(r.grow n).adopt (r.free n) a
theorem Ext.write {p:Addr}{o:HO}{k:Nat} (r:aU K g α H h) (hk:α[k]?=some p):Ext K α H α (upd H p o):=
 ⟨Ex0.upd (.inr (r.mem (Ms hk))),fun q u h m _=>by
  rw[aK];exact h
  rintro rfl;exact m (Ms hk),fun _ z m=>absurd z m⟩
theorem aU.write (r:aU K g α H h) (hk:α[k]?=some p) (a:OAt K g α (upd H p o) p u'):aU K g α (upd H p o) (h.set k u'):=by
 have x:Ext K α H α (upd H p o):=Ext.write r hk
 refine⟨by simp[r.len],r.inj,fun m q w h1 h2=>?_,r.tab.upd (.inr (r.mem (Ms hk)))⟩
 rw[List.getElem?_set] at h2
 by_cases hm:k=m
 ·simp_all
 ·rw[if_neg hm] at h2
  refine(r.here m q w h1 h2).ex0 x.toEx0 fun z e=>?_
  rw[aK];exact e
  rintro rfl;exact hm (r.inj _ _ _ hk h1)
end
noncomputable abbrev GG:=Str->Option Addr
noncomputable abbrev EE:=List Addr->Hp->Xc->Prop
structure ik (K) (g:GG) (α) (H) (env:En) (σ:St):Prop where
 len:env.length=σ.length
 vars:∀(i:Nat) d , env[i]?=some (some d)->∃v,σ[i]?=some (some v)/\aJ K g α H d v
structure c_ (K) (g:GG) (α) (H) (env) (σ) (h):Prop where
 heap:aU K g α H h
 vs:ik K g α H env σ
noncomputable def WQ (K:gV) (g:GG) (ε:EE) (α:List Addr) (H:Hp){β:Type} (r:R β) (k:β->Hh->Prop):Prop:=match r with
 | .ok b h=>k b h
 | .err x h=>∀α' H',Ext K α H α' H'->aU K g α' H' h->ε α' H' x
 | .bad=>False
section
variable {K:gV}{g:GG}{ε:EE}{α α':List Addr}{H H':Hp}{β γ:Type}
theorem WQ.bind {f:β->Hh->R γ} (w:WQ K g ε α H (r.bind f) k):WQ K g ε α H r fun b h=>WQ K g ε α H (f b h) k:=by
 cases r<;>exact w
theorem WQ.ext (e:Ext K α H α' H') (w:WQ K g ε α H r k):WQ K g ε α' H' r k:=by
 cases r with
 | ok b h=>exact w
 | err x h=>exact fun a b c d=>w a b (e.trans c) d
 | bad=>exact w
theorem WQ.mono (w:WQ K g ε α H r k) (m:∀b h,r=.ok b h->k b h->k' b h):WQ K g ε α H r k':=by
 cases r with
 | ok b h=>exact m b h rfl w
 | err x h=>exact w
 | bad=>exact w
theorem ik.ext {env:En}{σ:St} (v:ik K g α H env σ) (e:Ext K α H α' H'):ik K g α' H' env σ:=
 ⟨v.len,fun i d h=>let ⟨x,a,b⟩:=v.vars i d h;⟨x,a,b.ext e⟩⟩
theorem c_.ext (v:c_ K g α H env σ h) (e:Ext K α H α' H') (r:aU K g α' H' h'):c_ K g α' H' env σ h':=⟨r,v.vs.ext e⟩
theorem ik.set (v:ik K g α H env σ) (r:aJ K g α H d x):ik K g α H (env.set i (some d)) (σ.set i (some x)):=by
 refine⟨by simp[v.len],fun j e h=>?_⟩
 rw[List.getElem?_set] at h ⊢
 by_cases hj:i=j
 ·subst hj
  rw[if_pos rfl] at h ⊢
  have hl:=v.len
  simp_all
 ·rw[if_neg hj] at h ⊢
  exact v.vars j e h
end
noncomputable def aR (K:gV) (g:GG) (α:List Addr) (H:Hp) (Q:VK):D->Hh->Prop:=fun d h=>∀v H' α',Ext K α H α' H'->aU K g α' H' h->aJ K g α' H' d v->Q v H'
noncomputable def kW (K:gV) (g:GG) (α:List Addr) (H:Hp) (Q:Bool->Hp->Prop):Bool->Hh->Prop:=fun b h=>∀H' α',Ext K α H α' H'->aU K g α' H' h->Q b H'
noncomputable def Ht (K:gV) (g:GG) (α:List Addr) (H:Hp) (Q:List V->Hp->Prop):List D->Hh->Prop:=fun ds h=>∀vs H' α',Ext K α H α' H'->aU K g α' H' h->ax K g α' H' ds vs->Q vs H'
noncomputable def cP (K:gV) (g:GG) (α:List Addr) (H:Hp) (E:Ends):Fl->Hh->Prop:=fun fl h=>∀H' α',Ext K α H α' H'->aU K g α' H' h->match fl with
 | .nx e=>∀σ,ik K g α' H' e σ->E.nx σ H'
 | .bk e=>∀σ,ik K g α' H' e σ->E.bk σ H'
 | .ct e=>∀σ,ik K g α' H' e σ->E.ct σ H'
 | .rt d=>∀v,aJ K g α' H' d v->E.rt v H'
noncomputable def tM (K:gV) (g:GG) (ε:EE) (m:ME):TE:=fun σ H Q=>∃α env h,c_ K g α H env σ h/\WQ K g ε α H (m env h) (aR K g α H Q)
noncomputable def tMT (K:gV) (g:GG) (ε:EE) (m:MT):TT:=fun σ H Q=>∃α env h,c_ K g α H env σ h/\WQ K g ε α H (m env h) (kW K g α H Q)
noncomputable def tMA (K:gV) (g:GG) (ε:EE) (m:MA):TA:=fun σ H Q=>∃α env h,c_ K g α H env σ h/\WQ K g ε α H (m env h) (Ht K g α H Q)
noncomputable def tMS (K:gV) (g:GG) (ε:EE) (m:MS):TS:=fun E σ H=>∃α env h,c_ K g α H env σ h/\WQ K g ε α H (m env h) (cP K g α H E)
section
variable {K:gV}{g:GG}{ε:EE}{α α':List Addr}{H H':Hp}{env:En}{σ:St}{h:Hh}
theorem aR.ext (e:Ext K α H α' H') (p:aR K g α H Q d h):aR K g α' H' Q d h:=fun v H2 α2 e2 r rd=>p v H2 α2 (e.trans e2) r rd
theorem kW.ext (e:Ext K α H α' H') (p:kW K g α H Q d h):kW K g α' H' Q d h:=fun H2 α2 e2 r=>p H2 α2 (e.trans e2) r
theorem cP.ext (e:Ext K α H α' H') (p:cP K g α H E d h):cP K g α' H' E d h:=fun H2 α2 e2 r=>p H2 α2 (e.trans e2) r
theorem WQ.post (e:Ext K α H α' H') (w:WQ K g ε α H r (aR K g α H Q)):WQ K g ε α' H' r (aR K g α' H' Q):=(w.ext e).mono fun _ _ _ p=>p.ext e
theorem WQ.HF (e:Ext K α H α' H') (w:WQ K g ε α H r (kW K g α H Q)):WQ K g ε α' H' r (kW K g α' H' Q):=(w.ext e).mono fun _ _ _ p=>p.ext e
theorem WQ.xt (e:Ext K α H α' H') (w:WQ K g ε α H r (cP K g α H E)):WQ K g ε α' H' r (cP K g α' H' E):=(w.ext e).mono fun _ _ _ p=>p.ext e
theorem tM.use (s:c_ K g α H env σ h) (w:WQ K g ε α H (m env h) k)
  (q:∀d h' v H' α',Ext K α H α' H'->c_ K g α' H' env σ h'->aJ K g α' H' d v->k d h'->Q v H'):tM K g ε m σ H Q:=
 ⟨α,env,h,s,w.mono fun d h' _ kk v H' α' e r rd=>q d h' v H' α' e (s.ext e r) rd kk⟩
theorem tMT.use (s:c_ K g α H env σ h) (w:WQ K g ε α H (m env h) k)
  (q:∀d h' H' α',Ext K α H α' H'->c_ K g α' H' env σ h'->k d h'->Q d H'):tMT K g ε m σ H Q:=
 ⟨α,env,h,s,w.mono fun d h' _ kk H' α' e r=>q d h' H' α' e (s.ext e r) kk⟩
theorem tMA.use (s:c_ K g α H env σ h) (w:WQ K g ε α H (m env h) k)
  (q:∀d h' v H' α',Ext K α H α' H'->c_ K g α' H' env σ h'->ax K g α' H' d v->k d h'->Q v H'):tMA K g ε m σ H Q:=
 ⟨α,env,h,s,w.mono fun d h' _ kk v H' α' e r rd=>q d h' v H' α' e (s.ext e r) rd kk⟩
theorem aR.now (p:aR K g α H Q d h) (r:aU K g α H h) (rd:aJ K g α H d v):Q v H:=p v H α Ext.refl r rd
end
theorem PE.imp (h:PE X e t) (i:∀σ H Q,t' σ H Q->t σ H Q):PE X e t':=fun pins s σ H Q I w=>h pins s σ H Q I (i σ H Q w)
theorem PT.imp (h:PT X e t) (i:∀σ H Q,t' σ H Q->t σ H Q):PT X e t':=fun pins s σ H Q I w=>h pins s σ H Q I (i σ H Q w)
theorem PW.imp (h:PW X e t) (i:∀σ H Q,t' σ H Q->t σ H Q):PW X e t':=fun wh pins s σ H Q I w=>h wh pins s σ H Q I (i σ H Q w)
theorem PA.imp (h:PA X e t) (i:∀σ H Q,t' σ H Q->t σ H Q):PA X e t':=fun p pins s σ H Q I w=>h p pins s σ H Q I (i σ H Q w)
theorem PS.imp (h:PS X e t) (i:∀σ H Q,t' σ H Q->t σ H Q):PS X e t':=fun pins s σ H Q I w=>h pins s σ H Q I (i Q σ H w)
theorem PSs.imp (h:PSs X e t) (i:∀σ H Q,t' σ H Q->t σ H Q):PSs X e t':=fun pins s σ H Q I w=>h pins s σ H Q I (i Q σ H w)
noncomputable def ae (i:Nat):ME:=fun env h=>match env[i]? with
 | some (some d)=>.ok d h
 | _=>.bad
noncomputable def cC (d:D):ME:=fun _ h=>.ok d h
noncomputable def ao (f:D->D->Hh->R D) (a b:ME):ME:=fun env h=>(a env h).bind fun x h1=>(b env h1).bind fun y h2=>f x y h2
noncomputable def cUn (f:D->Hh->R D) (a:ME):ME:=fun env h=>(a env h).bind fun x h1=>f x h1
noncomputable def aj:MA:=fun _ h=>.ok [] h
noncomputable def aa (a:ME) (r:MA):MA:=fun env h=>(a env h).bind fun x h1=>(r env h1).bind fun xs h2=>.ok (x::xs) h2
noncomputable def ah (f:List D->Hh->R D) (a:MA):ME:=fun env h=>(a env h).bind fun xs h1=>f xs h1
noncomputable def aw (f:D->Hh->R Bool) (a:ME):MT:=fun env h=>(a env h).bind fun x h1=>f x h1
noncomputable def d_ (a:MT):MT:=fun env h=>(a env h).bind fun b h1=>.ok (!b) h1
noncomputable def zE (a b:MT):MT:=fun env h=>(a env h).bind fun x h1=>if x=true then b env h1 else .ok false h1
noncomputable def fY (a b:MT):MT:=fun env h=>(a env h).bind fun x h1=>if x=true then .ok true h1 else b env h1
noncomputable def cIf (c:MT) (a b:ME):ME:=fun env h=>(c env h).bind fun x h1=>if x=true then a env h1 else b env h1
noncomputable def asB:D->Hh->R Bool
 | .bl b,h=>.ok b h
 | _,_=>.bad
noncomputable def wX (a b:ME):ME:=fun env h=>(a env h).bind fun x h1=>(asB x h1).bind fun k h2=>if k=true then b env h2 else .ok (.bl false) h2
noncomputable def DY (a:ME):ME:=fun env h=>(a env h).bind fun x h1=>(asB x h1).bind fun k h2=>.ok (.bl (!k)) h2
noncomputable def kh (f f':D->D->Hh->R D) (a b c:ME):ME:=fun env h=>(a env h).bind fun x h1=>(b env h1).bind fun y h2=>(f x y h2).bind fun z h3=>(asB z h3).bind fun k h4=>
 if k=true then (c env h4).bind fun w h5=>f' y w h5 else .ok (.bl false) h4
noncomputable def dS (K:gV) (g:GG) (ε:EE) (f:D->D->Hh->R D) (r:R2):Prop:=
 ∀α H h a b x y Q , aU K g α H h->aJ K g α H a x->aJ K g α H b y->WQ K g ε α H (f a b h) (aR K g α H Q)->r x y H Q
noncomputable def IT (K:gV) (g:GG) (ε:EE) (f:D->Hh->R D) (r:V->Hp->VK->Prop):Prop:=
 ∀α H h a x Q , aU K g α H h->aJ K g α H a x->WQ K g ε α H (f a h) (aR K g α H Q)->r x H Q
noncomputable def G9 (K:gV) (g:GG) (ε:EE) (f:D->Hh->R Bool) (r:V->Hp->(Bool->Hp->Prop)->Prop):Prop:=
 ∀α H h a x Q , aU K g α H h->aJ K g α H a x->WQ K g ε α H (f a h) (kW K g α H Q)->r x H Q
noncomputable def kF (K:gV) (g:GG) (ε:EE) (f:List D->Hh->R D) (r:List V->Hp->VK->Prop):Prop:=
 ∀α H h a x Q , aU K g α H h->ax K g α H a x->WQ K g ε α H (f a h) (aR K g α H Q)->r x H Q
noncomputable def Jk (K:gV) (g:GG) (ε:EE) (f:D->List D->Hh->R D) (r:V->List V->Hp->VK->Prop):Prop:=
 ∀α H h o a y x Q , aU K g α H h->aJ K g α H o y->ax K g α H a x->WQ K g ε α H (f o a h) (aR K g α H Q)->r y x H Q
section
variable {X:Cx}{g:GG}{ε:EE}{a b c:Expr}{ma mb mc:ME}{pos:Pos}
theorem af (i:Nat){x:Str}{pos:Pos} (hN:X.N[i]?=some x:=by rfl) (hv:Vis X.env.scope x:=by first | exact PH rfl | exact QQ (PH rfl) | exact QQ (QQ rfl)) (hd:(x == ("__debug__" : Str))=false:=by decide)
  (hcd:(x == ("__classdict__" : Str))=false:=by decide):PE X (.Name x pos) (tM X.K g ε (ae i)):=by
 refine PE.imp (FF hN hv hd hcd) fun σ H Q ⟨α,env,h,s,w⟩=>?_
 unfold ae at w
 cases e:env[i]? with
 | none=>rw[e] at w;exact w.elim
 | some d=>
  cases d with
  | none=>rw[e] at w;exact w.elim
  | some d=>
   rw[e] at w
   obtain⟨v,hv,rd⟩:=s.vs.vars i d e
   exact⟨v,hv,aR.now w s.heap rd⟩
theorem zz (rd:∀α,aJ X.K g α H d v) (t:tM X.K g ε (cC d) σ H Q):tC v σ H Q:=by
 obtain⟨α,env,h,s,w⟩:=t
 exact aR.now w s.heap (rd α)
theorem aq:PE X (.Constant (.int i) j pos) (tM X.K g ε (cC (.int i))):=PE.imp Gj fun _ _ _ t=>zz (fun _=>.int i) t
theorem fo:PE X (.Constant (.bool i) j pos) (tM X.K g ε (cC (.bl i))):=PE.imp G2 fun _ _ _ t=>zz (fun _=>.bl i) t
theorem d7 (hg:Gl X x) (hm:X.mg x=some (.int i t)) (hd:(x == ("__debug__" : Str))=false:=by decide):PE X (.Name x pos) (tM X.K g ε (cC (.int i))):=
 PE.imp (CK (v:=.int i) hg hm ⟨t,rfl⟩ hd) fun _ _ _ t=>zz (fun _=>.int i) t
theorem qy {K:gV} (im:dS K g ε f r) (t:tM K g ε (ao f ma mb) σ H Q):tOp r (tM K g ε ma) (tM K g ε mb) σ H Q:=by
 obtain⟨α,env,h,s,w⟩:=t
 refine tM.use s w.bind fun d1 h1 v1 H1 α1 e1 s1 r1 w1=>?_
 refine tM.use s1 (w1.ext e1).bind fun d2 h2 v2 H2 α2 e2 s2 r2 w2=>?_
 exact im α2 H2 h2 d1 d2 v1 v2 Q s2.heap (r1.ext e2) r2 ((w2.ext e2).mono fun _ _ _ p=>p.ext (e1.trans e2))
theorem kB (ho:OpR X (binaryOp op) r) (im:dS X.K g ε f r) (ha:PE X a (tM X.K g ε ma)) (hb:PE X b (tM X.K g ε mb)):PE X (.BinOp a op b pos) (tM X.K g ε (ao f ma mb)):=
 PE.imp (Ic ho ha hb) fun _ _ _ t=>qy im t
theorem mn (ho:OpR X (compareOp op) r) (im:dS X.K g ε f r) (ha:PE X a (tM X.K g ε ma)) (hb:PE X b (tM X.K g ε mb)) (hm:behindInMarks op b=false):PE X (.Compare a [op] [b] pos) (tM X.K g ε (ao f ma mb)):=
 PE.imp (CS ho ha hb hm) fun _ _ _ t=>qy im t
theorem sL {K:gV} (ht:∀σ H Q,tM K g ε m σ H Q->t σ H Q) (w:tMT K g ε (aw asB m) σ H Q):zo t σ H Q:=by
 obtain⟨α,env,h,s,w⟩:=w
 refine ht _ _ _ (tM.use s w.bind fun d1 h1 v1 H1 α1 e1 s1 r1 w1=>?_)
 cases r1 with
 | bl k=>exact⟨k,rfl,w1 H1 α1 e1 s1.heap⟩
 | _=>exact w1.elim
theorem bS (ho:OpR X (compareOp op) r) (im:dS X.K g ε f r) (ha:PE X a (tM X.K g ε ma)) (hb:PE X b (tM X.K g ε mb)) (hm:behindInMarks op b=false):PT X (.Compare a [op] [b] pos) (tMT X.K g ε (aw asB (ao f ma mb))):=
 PT.imp (Cr ho ha hb hm) fun _ _ _ t=>sL (fun _ _ _ u=>qy im u) t
theorem oN {K:gV} (im:dS K g ε f r) (im':dS K g ε f' r') (t:tM K g ε (kh f f' ma mb mc) σ H Q):vi r r' (tM K g ε ma) (tM K g ε mb) (tM K g ε mc) σ H Q:=by
 obtain⟨α,env,h,s,w⟩:=t
 refine tM.use s w.bind fun d1 h1 v1 H1 α1 e1 s1 r1 w1=>?_
 refine tM.use s1 (w1.ext e1).bind fun d2 h2 v2 H2 α2 e2 s2 r2 w2=>?_
 refine im α2 H2 h2 d1 d2 v1 v2 _ s2.heap (r1.ext e2) r2 ((w2.ext e2).bind.mono fun z h3 _ w3 v3 H3 α3 e3 hr3 r3=>?_)
 have w4:=w3.bind
 cases r3 with
 | bl k=>
  refine⟨k,rfl,?_⟩
  have s3:=s2.ext e3 hr3
  cases k with
  | true=>
   have w5:WQ K g ε α2 H2 ((mc env h3).bind fun w h5=>f' d2 w h5) _:=w4
   refine tM.use s3 (w5.ext e3).bind fun d4 h4 v4 H4 α4 e4 s4 r4 w6=>?_
   exact im' α4 H4 h4 d2 d4 v2 v4 Q s4.heap (r2.ext (e3.trans e4)) r4 ((w6.ext e4).mono fun _ _ _ p=>p.ext (e1.trans (e2.trans (e3.trans e4))))
  | false=>
   have w5:=w4
   exact w5 _ H3 α3 (e1.trans (e2.trans e3)) s3.heap (.bl false)
 | _=>exact w4.elim
theorem AM (ho:OpR X (compareOp op) r) (ho':OpR X (compareOp op') r') (im:dS X.K g ε f r) (im':dS X.K g ε f' r') (ha:PE X a (tM X.K g ε ma)) (hb:PE X b (tM X.K g ε mb)) (hc:PE X c (tM X.K g ε mc))
  (hm:lastMarks [op,op'] [b,c]=false:=by with_unfolding_all rfl):PE X (.Compare a [op,op'] [b,c] pos) (tM X.K g ε (kh f f' ma mb mc)):=PE.imp (zR ho ho' ha hb hc hm) fun _ _ _ t=>oN im im' t
theorem AF (ho:OpR X (compareOp op) r) (ho':OpR X (compareOp op') r') (im:dS X.K g ε f r) (im':dS X.K g ε f' r') (ha:PE X a (tM X.K g ε ma)) (hb:PE X b (tM X.K g ε mb)) (hc:PE X c (tM X.K g ε mc))
  (hm:lastMarks [op,op'] [b,c]=false:=by with_unfolding_all rfl):PT X (.Compare a [op,op'] [b,c] pos) (tMT X.K g ε (aw asB (kh f f' ma mb mc))):=PT.imp (AR ho ho' ha hb hc hm) fun _ _ _ t=>sL (fun _ _ _ u=>oN im im' u) t
theorem oO {op:UnaryOp}{r:V->Hp->VK->Prop}{f:D->Hh->R D} (ho:UnR X (unaryOp op) r) (im:IT X.K g ε f r) (ha:PE X a (tM X.K g ε ma)):PE X (.UnaryOp op a pos) (tM X.K g ε (cUn f ma)):=
 PE.imp (Hl ho ha) fun σ H Q ⟨α,env,h,s,w⟩=>tM.use s w.bind fun d1 h1 v1 H1 α1 e1 s1 r1 w1=>im α1 H1 h1 d1 v1 Q s1.heap r1 (w1.post e1)
theorem IV (hr:IxR X r) (im:dS X.K g ε f r) (ha:PE X a (tM X.K g ε ma)) (hb:PE X b (tM X.K g ε mb)) (hs:wu b):PE X (.Subscript a b pos) (tM X.K g ε (ao f ma mb)):=
 PE.imp (GW hr ha hb hs) fun _ _ _ t=>qy im t
theorem cU {f:D->Hh->R Bool} (im:G9 X.K g ε f (fun x H Q=>∃k,Dv X.K x H k/\Q k H)) (ha:PE X a (tM X.K g ε ma)) (he:∀whole,isTrue a X.env whole=(do let v ← whole;standAt a.pos;holding [v] (truthy v))):PT X a (tMT X.K g ε (aw f ma)):=
 PT.imp (AY ha he) fun σ H Q ⟨α,env,h,s,w⟩=>tM.use s w.bind fun d1 h1 v1 H1 α1 e1 s1 r1 w1=>im α1 H1 h1 d1 v1 Q s1.heap r1 (w1.HF e1)
theorem fU {mt:MT} (ha:PT X a (tMT X.K g ε mt)):PT X (.UnaryOp .Not a pos) (tMT X.K g ε (d_ mt)):=
 PT.imp (Es ha) fun σ H Q ⟨α,env,h,s,w⟩=>tMT.use s w.bind fun d1 h1 H1 α1 e1 s1 w1=>w1 H1 α1 e1 s1.heap
end
section
variable {X:Cx}{g:GG}{ε:EE}{a b c e:Expr}{es:List Expr}{rest:List Expr}{ma mb mc me:ME}{mt mu:MT}{pos:Pos}
theorem CO (ha:PT X a (tMT X.K g ε mt)):PW X (.BoolOp .And [a] pos) (tMT X.K g ε mt):=pw_and1 ha
theorem jb (ha:PT X a (tMT X.K g ε mt)):PW X (.BoolOp .Or [a] pos) (tMT X.K g ε mt):=pw_or1 ha
theorem EM (ha:PT X a (tMT X.K g ε mt)) (hb:PW X (.BoolOp .And (b::rest) pos) (tMT X.K g ε mu)):PW X (.BoolOp .And (a::b::rest) pos) (tMT X.K g ε (zE mt mu)):=
 PW.imp (pw_and ha hb) fun σ H Q ⟨α,env,h,s,w⟩=>tMT.use s w.bind fun d1 h1 H1 α1 e1 s1 w1=>by
  cases d1 with
  | true=>rw[if_pos rfl] at w1 ⊢;exact tMT.use s1 (w1.ext e1) fun d2 h2 H2 α2 e2 s2 w2=>w2 H2 α2 (e1.trans e2) s2.heap
  | false=>rw[if_neg Mm] at w1 ⊢;exact w1 H1 α1 e1 s1.heap
theorem kY (ha:PT X a (tMT X.K g ε mt)) (hb:PW X (.BoolOp .Or (b::rest) pos) (tMT X.K g ε mu)):PW X (.BoolOp .Or (a::b::rest) pos) (tMT X.K g ε (fY mt mu)):=
 PW.imp (pw_or ha hb) fun σ H Q ⟨α,env,h,s,w⟩=>tMT.use s w.bind fun d1 h1 H1 α1 e1 s1 w1=>by
  cases d1 with
  | true=>rw[if_pos rfl] at w1 ⊢;exact w1 H1 α1 e1 s1.heap
  | false=>rw[if_neg Mm] at w1 ⊢;exact tMT.use s1 (w1.ext e1) fun d2 h2 H2 α2 e2 s2 w2=>w2 H2 α2 (e1.trans e2) s2.heap
theorem sA (hc:PT X c (tMT X.K g ε mt)) (ha:PE X a (tM X.K g ε ma)) (hb:PE X b (tM X.K g ε mb)):PE X (.IfExp c a b pos) (tM X.K g ε (cIf mt ma mb)):=
 PE.imp (Bc hc ha hb) fun σ H Q ⟨α,env,h,s,w⟩=>tMT.use s w.bind fun d1 h1 H1 α1 e1 s1 w1=>by
  cases d1 with
  | true=>rw[if_pos rfl] at w1 ⊢;exact tM.use s1 (w1.ext e1) fun d2 h2 v2 H2 α2 e2 s2 r2 w2=>w2 v2 H2 α2 (e1.trans e2) s2.heap r2
  | false=>rw[if_neg Mm] at w1 ⊢;exact tM.use s1 (w1.ext e1) fun d2 h2 v2 H2 α2 e2 s2 r2 w2=>w2 v2 H2 α2 (e1.trans e2) s2.heap r2
theorem zL (h:PE X a (tM X.K g ε ma)):PE X (.BoolOp op [a] pos) (tM X.K g ε ma):=FT h
theorem zA {K:gV}{k:β->Hh->Prop} (r:aJ K g α1 H1 d v) (w:WQ K g ε α H ((asB d h).bind f) k):∃b,v=.bl b/\d=.bl b/\WQ K g ε α H (f b h) k:=by
 cases r with
 | bl b=>exact⟨b,rfl,rfl,w⟩
 | _=>exact w.elim
theorem Am (ha:PE X a (tM X.K g ε ma)) (hb:PE X (.BoolOp .And (b::rest) pos) (tM X.K g ε mb)):PE X (.BoolOp .And (a::b::rest) pos) (tM X.K g ε (wX ma mb)):=
 PE.imp (Gk ha hb) fun σ H Q ⟨α,env,h,s,w⟩=>tM.use s w.bind fun d1 h1 v1 H1 α1 e1 s1 r1 w1=>by
  obtain⟨k,rfl,rfl,w2⟩:=zA r1 w1
  refine⟨k,rfl,?_⟩
  cases k with
  | true=>rw[if_pos rfl] at w2 ⊢;exact tM.use s1 (w2.ext e1) fun d2 h2 v2 H2 α2 e2 s2 r2 w2=>w2 v2 H2 α2 (e1.trans e2) s2.heap r2
  | false=>rw[if_neg Mm] at w2 ⊢;exact w2 _ H1 α1 e1 s1.heap (.bl false)
theorem Ge (ha:PE X a (tM X.K g ε ma)):PE X (.UnaryOp .Not a pos) (tM X.K g ε (DY ma)):=
 PE.imp (F0 ha) fun σ H Q ⟨α,env,h,s,w⟩=>tM.use s w.bind fun d1 h1 v1 H1 α1 e1 s1 r1 w1=>by
  obtain⟨k,rfl,rfl,w2⟩:=zA r1 w1
  exact⟨k,rfl,w2 _ H1 α1 e1 s1.heap (.bl _)⟩
variable {mr:MA}
theorem ai:PA X [] (tMA X.K g ε aj):=PA.imp qS fun σ H Q ⟨α,env,h,s,w⟩=>w [] H α Ext.refl s.heap .nil
theorem CQ (ha:PE X e (tM X.K g ε ma)) (hr:PA X es (tMA X.K g ε mr)) (hs:starEach (e::es) X.env=(false,eval e X.env)::starEach es X.env:=by rfl):PA X (e::es) (tMA X.K g ε (aa ma mr)):=
 PA.imp (jU ha hr hs) fun σ H Q ⟨α,env,h,s,w⟩=>tM.use s w.bind fun d1 h1 v1 H1 α1 e1 s1 r1 w1=>tMA.use s1 (w1.ext e1).bind fun d2 h2 v2 H2 α2 e2 s2 r2 w2=>w2 _ H2 α2 (e1.trans e2) s2.heap (.cons (r1.ext e2) r2)
noncomputable def d8:List D->Hh->R D:=fun ds h=>if ds.length<=1000000 then .ok (.tup ds) h else .bad
theorem aR.tup {K:gV}{α:List Addr}{H:Hp}{h:Hh}{ds:List D}{vs:List V}{Q:VK}{p:Addr} (w:aR K g α H Q (.tup ds) h) (r:aU K g α H h) (rd:ax K g α H ds vs) (n:H p=none):Q (.ref p) (upd H p (.tup vs)):=
 w _ _ α (Ext.fresh n) (r.grow n) (.tup a8 (rd.ext (Ext.fresh n)))
theorem WQ.eT {K:gV}{α:List Addr}{H:Hp}{β:Type}{c:Prop} [Decidable c]{r:R β}{k:β->Hh->Prop} (w:WQ K g ε α H (if c then r else .bad) k):c/\WQ K g ε α H r k:=by
 by_cases h:c
 ·simp_all
 ·rw[if_neg h] at w;exact w.elim
theorem gZ (h:n<=1000000):n<=sizeLine:=by rw[MV];lia
theorem FI {x1} (ha:PA X es (tMA X.K g ε mr)):PE X (.Tuple es x1 pos) (tM X.K g ε (ah d8 mr)):=
 PE.imp (FY ha) fun σ H Q ⟨α,env,h,s,w⟩=>tMA.use s w.bind fun d1 h1 v1 H1 α1 e1 s1 r1 w1=>by
  obtain⟨hl,w2⟩:=WQ.eT w1
  exact⟨gZ (by rw[<- r1.length];exact hl),fun p hp=>aR.tup (aR.ext e1 w2) s1.heap r1 hp⟩
theorem A7 {K:gV} (im:kF K g ε f r) (t:tM K g ε (ah f mr) σ H Q):tCB r (tMA K g ε mr) σ H Q:=by
 obtain⟨α,env,h,s,w⟩:=t
 exact tMA.use s w.bind fun d1 h1 v1 H1 α1 e1 s1 r1 w1=>im α1 H1 h1 d1 v1 Q s1.heap r1 (w1.post e1)
theorem aS {id:String}{p:Pos} (hc:bJ X (.builtin id) r) (im:kF X.K g ε f r) (hg:Gl X x) (hm:X.mg x=none) (hv:bootBuiltins x=some (.builtin id)) (ha:PA X (e::es) (tMA X.K g ε mr)) (hn:x≠"__name__" := by decide) (hdb:(x == ("__debug__" : Str))=false:=by decide)
  (he:starEach (e::es) X.env=(false,eval e X.env)::starEach es X.env:=by rfl) (hpl:(backTo pos (starEach es X.env)).any (·.1)=false:=by rfl):PE X (.Call (.Name x p) (e::es) [] pos) (tM X.K g ε (ah f mr)):=
 PE.imp (sf hc hg hm hv ha hn hdb he hpl) fun _ _ _ t=>A7 im t
theorem cq {id:String}{p:Pos} (hc:bJ X (.type id) r) (im:kF X.K g ε f r) (hg:Gl X x) (hm:X.mg x=none) (hv:bootBuiltins x=some (.type id)) (ha:PA X (e::es) (tMA X.K g ε mr)) (hn:x≠"__name__" := by decide) (hdb:(x == ("__debug__" : Str))=false:=by decide)
  (he:starEach (e::es) X.env=(false,eval e X.env)::starEach es X.env:=by rfl) (hpl:(backTo pos (starEach es X.env)).any (·.1)=false:=by rfl):PE X (.Call (.Name x p) (e::es) [] pos) (tM X.K g ε (ah f mr)):=
 PE.imp (j9 hc hg hm hv ha hn hdb he hpl) fun _ _ _ t=>A7 im t
end
noncomputable def a9:MS:=fun env h=>.ok (.nx env) h
noncomputable def BF:MS:=fun env h=>.ok (.bk env) h
noncomputable def az (a b:MS):MS:=fun env h=>(a env h).bind fun fl h1=>match fl with
 | .nx e=>b e h1
 | fl=>.ok fl h1
noncomputable def cW (a:ME):MS:=fun env h=>(a env h).bind fun _ h1=>.ok (.nx env) h1
noncomputable def aW (a:ME):MS:=fun env h=>(a env h).bind fun d h1=>.ok (.rt d) h1
noncomputable def bV (c:MT) (a b:MS):MS:=fun env h=>(c env h).bind fun x h1=>if x=true then a env h1 else b env h1
noncomputable def aV (i:Nat) (a:ME):MS:=fun env h=>(a env h).bind fun d h1=>.ok (.nx (env.set i (some d))) h1
noncomputable def oB (i:Nat) (f:D->D->Hh->R D) (a:ME):MS:=fun env h=>(ae i env h).bind fun x h0=>(a env h0).bind fun y h1=>(f x y h1).bind fun z h2=>.ok (.nx (env.set i (some z))) h2
noncomputable def qg (f:D->D->D->Hh->R Unit) (o i v:ME):MS:=fun env h=>(v env h).bind fun x h1=>(o env h1).bind fun y h2=>(i env h2).bind fun z h3=>(f y z x h3).bind fun _ h4=>.ok (.nx env) h4
noncomputable def Bk:MS:=fun _ _=>.bad
section
variable {X:Cx}{g:GG}{ε:EE}{e:Expr}{me:ME}{ms mu:MS}{mt:MT}{st:Stmt}{rest:List Stmt}{pos:Pos}
theorem c_.nx {K:gV} (s:c_ K g α' H' env σ h') (e:Ext K α H α' H') (w:cP K g α H E (.nx env) h'):E.nx σ H':=w H' α' e s.heap σ s.vs
theorem bj:PSs X [] (tMS X.K g ε a9):=PSs.imp Dn fun E σ H ⟨α,env,h,s,w⟩=>s.nx Ext.refl w
theorem Ie:PS X (.Break pos) (tMS X.K g ε BF):=PS.imp zr fun E σ H ⟨α,env,h,s,w⟩=>(show cP X.K g α H E (.bk env) h from w) H α Ext.refl s.heap σ s.vs
theorem tMS.use {K:gV} (s:c_ K g α H env σ h) (w:WQ K g ε α H (m env h) k)
  (q:∀fl h' H' α',Ext K α H α' H'->aU K g α' H' h'->k fl h'->match fl with
   | .nx e=>∀σ',c_ K g α' H' e σ' h'->E.nx σ' H'
   | .bk e=>∀σ',c_ K g α' H' e σ' h'->E.bk σ' H'
   | .ct e=>∀σ',c_ K g α' H' e σ' h'->E.ct σ' H'
   | .rt d=>∀v,aJ K g α' H' d v->E.rt v H'):tMS K g ε m E σ H:=
 ⟨α,env,h,s,w.mono fun fl h' _ kk H' α' e r=>by
  have:=q fl h' H' α' e r kk
  cases fl with
  | nx e=>exact fun σ' v=>this σ' ⟨r,v⟩
  | bk e=>exact fun σ' v=>this σ' ⟨r,v⟩
  | ct e=>exact fun σ' v=>this σ' ⟨r,v⟩
  | rt d=>lia⟩
theorem Dz (h1:PS X st (tMS X.K g ε ms)) (h2:PSs X rest (tMS X.K g ε mu)):PSs X (st::rest) (tMS X.K g ε (az ms mu)):=
 PSs.imp (AO h1 h2) fun E σ H ⟨α,env,h,s,w⟩=>tMS.use s w.bind fun fl h' H' α' e r kk=>by
  cases fl with
  | nx env'=>exact fun σ' s'=>⟨α',env',h',s',WQ.xt e kk⟩
  | bk env'=>exact fun σ' s'=>(show cP X.K g α H E (.bk env') h' from kk) H' α' e r σ' s'.vs
  | ct env'=>exact fun σ' s'=>(show cP X.K g α H E (.ct env') h' from kk) H' α' e r σ' s'.vs
  | rt d=>exact fun v rv=>(show cP X.K g α H E (.rt d) h' from kk) H' α' e r v rv
theorem Gh (h1:PS X st (tMS X.K g ε ms)):PSs X [st] (tMS X.K g ε ms):=CZ h1
theorem c6 (he:PE X e (tM X.K g ε me)) (hs:swapsWith e none pos.line X.env=pure false:=by rfl):PS X (.Expr e pos) (tMS X.K g ε (cW me)):=
 PS.imp (Du he hs) fun E σ H ⟨α,env,h,s,w⟩=>tM.use s w.bind fun d1 h1 v1 H1 α1 e1 s1 r1 w1=>s1.nx e1 w1
theorem Hb (he:PE X e (tM X.K g ε me)):PS X (.Return (some e) pos) (tMS X.K g ε (aW me)):=
 PS.imp (Ej he) fun E σ H ⟨α,env,h,s,w⟩=>tM.use s w.bind fun d1 h1 v1 H1 α1 e1 s1 r1 w1=>(show cP X.K g α H E (.rt d1) h1 from w1) H1 α1 e1 s1.heap v1 r1
theorem fh {c:Expr}{A B:List Stmt} (hc:PT X c (tMT X.K g ε mt)) (ha:PSs X A (tMS X.K g ε ms)) (hb:PSs X B (tMS X.K g ε mu)):PS X (.If c A B pos) (tMS X.K g ε (bV mt ms mu)):=
 PS.imp (Ha hc ha hb) fun E σ H ⟨α,env,h,s,w⟩=>tMT.use s w.bind fun d1 h1 H1 α1 e1 s1 w1=>by
  cases d1 with
  | true=>rw[if_pos rfl] at w1 ⊢;exact⟨α1,env,h1,s1,WQ.xt e1 w1⟩
  | false=>rw[if_neg Mm] at w1 ⊢;exact⟨α1,env,h1,s1,WQ.xt e1 w1⟩
theorem HY {i:Nat}{x:Str}{pos':Pos} (hN:X.N.Nodup) (hi:X.N[i]?=some x) (hx:Loc X.env.scope x) (he:PE X e (tM X.K g ε me)) (hs:swapsWith e (some (.Name x pos')) pos.line X.env=pure false:=by rfl) (hf:X.fn x=true\/X.env.scope.names.lookup x=some .local:=by first | exact .inl rfl | exact .inr rfl | assumption) :
  PS X (.Assign [.Name x pos'] e pos) (tMS X.K g ε (aV i me)):=
 PS.imp (Ey hN hi hx he hs hf) fun E σ H ⟨α,env,h,s,w⟩=>tM.use s w.bind fun d1 h1 v1 H1 α1 e1 s1 r1 w1=>(show cP X.K g α H E (.nx (env.set i (some d1))) h1 from w1) H1 α1 e1 s1.heap _ (s1.vs.set r1)
theorem v_ {i:Nat}{x:Str}{op:Operator}{ti:TIp}{f:D->D->Hh->R D}{pos':Pos} (hN:X.N.Nodup) (hi:X.N[i]?=some x) (hx:Loc X.env.scope x) (he:PE X e (tM X.K g ε me)) (ho:PIp X op ti) (im:dS X.K g ε f ti) (hf:X.fn x=true\/X.env.scope.names.lookup x=some .local:=by first | exact .inl rfl | exact .inr rfl | assumption) :
  PS X (.AugAssign (.Name x pos') op e pos) (tMS X.K g ε (oB i f me)):=
 PS.imp (FZ hN hi hx he ho hf) fun E σ H ⟨α,env,h,s,w⟩=>by
  have w0:=w.bind
  unfold ae at w0
  cases ei:env[i]? with
  | none=>rw[ei] at w0;exact w0.elim
  | some d=>
   cases d with
   | none=>rw[ei] at w0;exact w0.elim
   | some d=>
    rw[ei] at w0
    have w1:=w0
    obtain⟨v,hv,rd⟩:=s.vs.vars i d ei
    refine⟨v,hv,tM.use s w1.bind fun d1 h1 v1 H1 α1 e1 s1 r1 w2=>?_⟩
    refine im α1 H1 h1 d d1 v v1 _ s1.heap (rd.ext e1) r1 ((w2.ext e1).bind.mono fun z h2 _ w3 v3 H3 α3 e3 hr3 r3=>?_)
    exact(show cP X.K g α H E (.nx _) h2 from w3) H3 α3 (e1.trans e3) hr3 _ ((s1.vs.ext e3).set r3)
noncomputable def IG (K:gV) (g:GG) (ε:EE) (f:D->D->D->Hh->R Unit) (t:A0):Prop:=
 ∀α H h o i v x y z Q , aU K g α H h->aJ K g α H o x->aJ K g α H i y->aJ K g α H v z->WQ K g ε α H (f o i v h) (fun _ h'=>∀H' α',Ext K α H α' H'->aU K g α' H' h'->Q H')->t x y z H Q
theorem wU {o i:Expr}{mo mi:ME}{t:A0}{f:D->D->D->Hh->R Unit}{p:Pos} (he:PE X e (tM X.K g ε me)) (ho:PE X o (tM X.K g ε mo)) (hi:PE X i (tM X.K g ε mi)) (hp:EV X t) (im:IG X.K g ε f t)
  (ha:∀v,assign (.Subscript o i p) X.env v=(do
   let ov ← holding [v] (eval o X.env)
   let iv ← holding [v,ov] (eval i X.env)
   standAt p
   holding [v,ov,iv] (setItem ov iv v)
   release [v,ov,iv] []):=by intro _;rfl)
  (hs:swapsWithSole [.Subscript o i p] e pos.line X.env=pure false:=by rfl) (hw:swappedStores [.Subscript o i p] e X.env=pure none:=by rfl)
  (h1:(assignEach [.Subscript o i p] X.env).map (·.2)=[assign (.Subscript o i p) X.env]:=by rfl):PS X (.Assign [.Subscript o i p] e pos) (tMS X.K g ε (qg f mo mi me)):=
 PS.imp (zO he (GF ho hi hp ha) hs hw h1) fun E σ H ⟨α,env,h,s,w⟩=>tM.use s w.bind fun d1 h1 v1 H1 α1 e1 s1 r1 w1=>tM.use s1 (w1.ext e1).bind fun d2 h2 v2 H2 α2 e2 s2 r2 w2=>tM.use s2 (w2.ext e2).bind fun d3 h3 v3 H3 α3 e3 s3 r3 w3=>by
  refine im α3 H3 h3 d2 d3 d1 v2 v3 v1 _ s3.heap (r2.ext e3) r3 ((r1.ext e2).ext e3) ((w3.ext e3).bind.mono fun _ h4 _ w4 H4 α4 e4 hr4=>?_)
  exact(show cP X.K g α H E (.nx env) h4 from w4) H4 α4 (e1.trans (e2.trans (e3.trans e4))) hr4 _ (s3.vs.ext e4)
end
theorem xr {σ:St} (I:Inv X pins σ H s) (h:H p=some u) (mu:Mut (some u)):∃o,Inv X pins σ (upd H p (.frz o u)) s:=by
 obtain⟨o,ho⟩:∃o,s.heap.get? p=some o:=by
  cases e:s.heap.get? p with
  | some o=>simp
  | none=>
   have q:=I.hok p _ h
   cases u with
   | lst xs=>obtain⟨_,_,_,_,e'⟩:=q;simp_all
   | dK kvs=>obtain⟨_,_,_,_,o,_,_,e',_⟩:=q;simp_all
   | dT kvs=>obtain⟨_,_,_,_,o,_,_,e',_⟩:=q;simp_all
   | set S n=>obtain⟨o,_,_,_,e',_⟩:=q;simp_all
   | ins C dx fs=>obtain⟨_,_,_,e',_⟩:=q;simp_all
   | ext φ=>obtain⟨_,⟨_,e'⟩,_⟩:=q;simp_all
   | _=>exact absurd mu (fun z=>z)
 have nt:∀b xs,H b=some (.tup xs)->b≠p:=fun b xs e z=>by subst z;rw[h] at e;cases e;exact mu
 have nf:∀b o u,H b=some (.frz o u)->b≠p:=fun b o u e z=>by subst z;rw[h] at e;cases e;exact mu
 have nb:∀b ps,H b=some (.tbl ps)->b≠p:=fun b ps e z=>by subst z;rw[h] at e;cases e;exact mu
 have no:∀b y,H b=some (.own y)->b≠p:=fun b ps e z=>by subst z;rw[h] at e;cases e;exact mu
 have hok:HOk X.prog X.w (upd H p (.frz o u)) s.heap:=fun b v q=>by
  by_cases hb:b=p
  ·subst hb
   rw[a8] at q;cases q
   exact⟨ho,(I.hok b _ h).kj (fun _ _ _ z=>z) (fun c z=>by rw[aK (no c _ z)];exact z) fun c xs z=>by rw[aK (nt c xs z)];exact z⟩
  ·rw[aK hb] at q
   exact(I.hok b v q).kj (fun _ _ _ z=>z) (fun c z=>by rw[aK (no c _ z)];exact z) fun c xs z=>by rw[aK (nt c xs z)];exact z
 refine⟨o,?_⟩
 have np:∀b,H b=none->b≠p:=fun b e z=>by simp_all
 have:=I.un (t':=s.toks) ⟨fun b o q _ _ _=>q,fun b o q _ _ _=>⟨o.slots,q⟩,fun b v q n _=>(by rw[aK (np b n)];exact n),fun b o q _=>⟨o,q⟩,fun b xs q=>(by rw[aK (nt b xs q)];exact q),fun b o v q=>(by rw[aK (nf b o v q)];exact q),fun b ps q=>⟨#[],by rw[aK (nb b ps q),q];simp⟩⟩ hok
 omega
noncomputable def g9 (Q:VK):VK:=fun v H=>Q v H\/∃p u,v=.ref p/\H p=some u/\Mut (some u)/\∀o,Q v (upd H p (.frz o u))
theorem EP.frz (h:EP X pins σ (g9 Q) u s'):EP X pins σ Q u s':=by
 obtain⟨v,H',I,r,q | ⟨p,u,rfl,e,m,q⟩⟩:=h
 ·exact⟨v,H',I,r,q⟩
 ·obtain⟨o,I'⟩:=xr I e m
  exact⟨_,_,I',r,q o⟩
theorem PE.frz (h:PE X e t):PE X e fun σ H Q=>t σ H (g9 Q):=fun pins s σ H Q I w=>thn (h pins s σ H _ I w) fun _ _ z=>EP.frz z
theorem OpR.frz (h:OpR X f r):OpR X f fun x y H Q=>r x y H (g9 Q):=fun pins s σ H x y v u Q I rx ry q=>thn (h pins s σ H x y v u _ I rx ry q) fun _ _ z=>EP.frz z
theorem bJ.frz (h:bJ X f r):bJ X f fun xs H Q=>r xs H (g9 Q):=fun pins s σ H xs us Q I rx q=>thn (h pins s σ H xs us _ I rx q) fun _ _ z=>EP.frz z
noncomputable def Hy (D:Ends):Ends:={ D with nx:=fun σ H=>D.nx σ H\/∃p u,H p=some u/\Mut (some u)/\∀o,D.nx σ (upd H p (.frz o u)) }
theorem PS.frz {st:Stmt}{t:TS} (h:PS X st t):PS X st fun E σ H=>t (Hy E) σ H:=fun pins s σ H E I w=>thn (h pins s σ H _ I w) fun fl s' z=>by
 cases fl with
 | next=>
  obtain⟨σ',H',I,q | ⟨p,u,e,m,q⟩⟩:=z
  ·exact⟨σ',H',I,q⟩
  ·obtain⟨o,I'⟩:=xr I e m
   exact⟨σ',_,I',q o⟩
 | brk=>exact z
 | cont=>exact z
 | ret u=>exact z
theorem B9 {σ:St} (z:g9 (fun v H1=>E.nx (σ.set i (some v)) H1) v H1):(Hy E).nx (σ.set i (some v)) H1:=by
 rcases z with z | ⟨p,u,_,e,m,q⟩
 ·exact .inl z
 ·exact .inr ⟨p,u,e,m,q⟩
noncomputable abbrev NL:=List D->Hh->R D
noncomputable def s_:NL:=fun ys h2=>.ok (.ref h2.length) (h2++[O.lst ys])
noncomputable def aD:NL:=fun ys h2=>.ok (.frl ys) h2
class iq (nl:NL):Prop where
 at':∀{K:gV} {g:GG} {ε:EE} {α1 α2:List Addr} {H1 H2:Hp} {h:Hh} {as:List D} {ys:List V} {acc:Addr} {Q:D->Hh->Prop} {R:VK},WQ K g ε α1 H1 (nl as h) Q->(∀d h',Q d h'->aR K g α1 H1 R d h')->Ext K α1 H1 α2 H2->aU K g α2 H2 h->ax K g α2 H2 as ys->H2 acc=some (.lst ys)->acc∉α2->H1 acc=none->g9 R (.ref acc) H2
instance:iq s_ where
 at':=fun{K g ε α1 α2 H1 H2 h as ys acc Q R} w hq x2 hr2 ra ha hna hacc=>by
  have x3:Ext K α1 H1 (α2++[acc]) H2:=⟨x2.toEx0.trans (Ex0.refl.more _),x2.kept,fun p z n=>by
   rcases Ml.mp z with z | z
   ·exact x2.new p z n
   ·rw[LX.mp z];exact hacc⟩
  refine .inl (hq _ _ w _ H2 (α2++[acc]) x3 (hr2.adopt hna ⟨ys,ha,ra.ex0 (Ex0.refl.more _)⟩) (.ref ?_))
  rw[<- hr2.len,LY (LH _)];simp
instance:iq aD where
 at':=fun{K g ε α1 α2 H1 H2 h as ys acc Q R} w hq x2 hr2 ra ha hna hacc=>by
  refine .inr ⟨acc,_,rfl,ha,trivial,fun o=>?_⟩
  have soft:zT H2 acc:=.inr ⟨_,ha,fun _ z=>(nomatch z),fun _ _ z=>(nomatch z),fun _ z=>nomatch z⟩
  have x6:Ex0 K α2 H2 α2 (upd H2 acc (.frz o (.lst ys))):=Ex0.upd soft
  refine hq _ _ w _ _ α2 ⟨x2.toEx0.trans x6,fun p u z n nt=>?_,x2.new⟩ (hr2.off soft hna) (.frl ⟨o,a8⟩ (ra.ex0 x6))
  rw[aK (br z hacc)];exact x2.kept p u z n nt
theorem NL.post [iq nl]{K:gV}{g:GG}{ε:EE}{α:List Addr}{H:Hp}{h:Hh}{ds:List D}{vs:List V}{Q:VK}{p:Addr} (w:WQ K g ε α H (nl ds h) (aR K g α H Q)) (r:aU K g α H h) (rd:ax K g α H ds vs) (n:H p=none):g9 Q (.ref p) (upd H p (.lst vs)):=
 iq.at' w (fun _ _ z=>z) (Ext.fresh n) (r.grow n) (rd.ext (Ext.fresh n)) a8 (r.free n) n
noncomputable def eB (nl:NL):List D->Hh->R D:=fun ds h=>if ds.length<=1000000 then nl ds h else .bad
theorem E3 {X:Cx}{g:GG}{ε:EE}{es:List Expr}{mr:MA}{pos:Pos}{nl:NL} [iq nl] (ha:PA X es (tMA X.K g ε mr)):PE X (.List es pos) (tM X.K g ε (ah (eB nl) mr)):=
 PE.imp (PE.frz (Fi ha)) fun σ H Q ⟨α,env,h,s,w⟩=>tMA.use s w.bind fun d1 h1 v1 H1 α1 e1 s1 r1 w1=>by
  obtain⟨hl,w2⟩:=WQ.eT w1
  exact⟨gZ (by rw[<- r1.length];exact hl),fun p hp=>NL.post (w2.post e1) s1.heap r1 hp⟩
noncomputable def aH (h:Hh) (n:Nat):Option (List D):=match h[n]? with
 | some (.lst ds)=>some ds
 | _=>none
inductive Src where
 | snap (ds:List D)
 | live (n:Nat)
 | liveE (n:Nat)
noncomputable abbrev MI:=En->Hh->R Src
noncomputable abbrev Rdr:=Hh->Nat->Option (Option D)
noncomputable def Src.rdr:Src->Rdr
 | .snap ds=>fun _ i=>some ds[i]?
 | .live n=>fun h i=>(aH h n).map fun ds=>ds[i]?
 | .liveE n=>fun h i=>(aH h n).map fun ds=>(ds[i]?).map fun d=>D.tup [.int i,d]
noncomputable def Src.fuel (s:Src) (h:Hh):Nat:=match s with
 | .snap ds=>ds.length
 | .live n=>((aH h n).getD []).length
 | .liveE n=>((aH h n).getD []).length
noncomputable def Reads (K:gV) (g:GG) (J:It) (rd:Rdr) (α₀:List Addr) (av:Hp):Prop:=
 ∀α H h , Ext K α₀ av α H->aU K g α H h->∀i,match rd h i with
  | none=>True
  | some none=>J.stop i H
  | some (some d)=>J.go i H/\∀x H',J.yld i H x H'->∃α',Ext K α H α' H'/\aU K g α' H' h/\aJ K g α' H' d x
noncomputable def tMI (K:gV) (g:GG) (ε:EE) (m:MI):TI:=fun σ H T=>∃α env h,c_ K g α H env σ h/\WQ K g ε α H (m env h) fun sr h'=>∀J H' α',Ext K α H α' H'->aU K g α' H' h'->Reads K g J sr.rdr α' H'->T J H'
theorem PI.imp (h:PI X tg e t) (i:∀σ H Q,t' σ H Q->t σ H Q):PI X tg e t':=fun pins s σ H Q I w=>h pins s σ H Q I (i σ H Q w)
noncomputable def kG (rd:Rdr) (tg:D->En->Hh->R En) (body:MS):Nat->Nat->En->Hh->R Fl
 | k,i,env,h=>match rd h i with
  | none=>.bad
  | some none=>.ok (.nx env) h
  | some (some d)=>match k with
   | 0=>.bad
   | k+1=>(tg d env h).bind fun e1 h1=>(body e1 h1).bind fun fl h2=>match fl with
    | .nx e=>kG rd tg body k (i+1) e h2
    | .ct e=>kG rd tg body k (i+1) e h2
    | .bk e=>.ok (.nx e) h2
    | .rt d=>.ok (.rt d) h2
noncomputable def eJ (tg:D->En->Hh->R En) (body:MS):List D->En->Hh->R Fl
 | [],env,h=>.ok (.nx env) h
 | d::ds,env,h=>(tg d env h).bind fun e1 h1=>(body e1 h1).bind fun fl h2=>match fl with
  | .nx e=>eJ tg body ds e h2
  | .ct e=>eJ tg body ds e h2
  | .bk e=>.ok (.nx e) h2
  | .rt d=>.ok (.rt d) h2
theorem BO (tg:D->En->Hh->R En) (body:MS) (all:List D):∀(ds:List D) (i:Nat) (env:En) (h:Hh),all.drop i=ds->kG (Src.snap all).rdr tg body ds.length i env h=eJ tg body ds env h:=by
 intro ds
 induction ds with
 | nil=>
  intro i env h e
  have:all[i]?=none:=by
   simp_all
  unfold kG eJ Src.rdr
  grind
 | cons d ds ih=>
  intro i env h e
  have h0:all[i]?=some d:=by
   have:=congrArg (fun l=>l[0]?) e
   grind
  have h1:all.drop (i+1)=ds:=by
   have:=congrArg List.tail e
   simpa using this
  unfold kG eJ
  have:(Src.snap all).rdr h i=some (some d):=by unfold Src.rdr;simp[h0]
  simp_all
noncomputable def eL (mi:MI) (tg:D->En->Hh->R En) (body:MS):MS:=fun env h=>(mi env h).bind fun sr h1=>match sr with
 | .snap ds=>eJ tg body ds env h1
 | .live n=>kG (Src.live n).rdr tg body ((aH h1 n).getD []).length 0 env h1
 | .liveE n=>kG (Src.liveE n).rdr tg body ((aH h1 n).getD []).length 0 env h1
theorem C0:eL mi tg body env h=(mi env h).bind fun sr h1=>kG sr.rdr tg body (sr.fuel h1) 0 env h1:=by
 unfold eL
 congr 1
 funext sr h1
 cases sr with
 | snap ds=>exact(BO tg body ds ds 0 env h1 rfl).symm
 | live n=>rfl
 | liveE n=>rfl
noncomputable def gN (i:Nat):D->En->Hh->R En:=fun d env h=>.ok (env.set i (some d)) h
noncomputable def gT2 (i j:Nat):D->En->Hh->R En:=fun d env h=>match d with
 | .tup [x,y]=>.ok ((env.set i (some x)).set j (some y)) h
 | _=>.bad
noncomputable def FA (K:gV) (g:GG) (ε:EE) (tg:D->En->Hh->R En) (t:TG):Prop:=
 ∀α H h env σ d x Q , c_ K g α H env σ h->aJ K g α H d x →
  WQ K g ε α H (tg d env h) (fun e1 h1=>∀σ' H' α',Ext K α H α' H'->c_ K g α' H' e1 σ' h1->Q σ' H')->t x σ H Q
theorem dG {K:gV}:FA K g ε (gN i) (dD i):=fun α H h env σ d x Q s r w=>w _ H α Ext.refl ⟨s.heap,s.vs.set r⟩
theorem AE {K:gV}:FA K g ε (gT2 i j) (BC K 2 (jC (dD i) (jC (dD j) zq))):=fun α H h env σ d x Q s r w=>by
 cases r with
 | tup hq rs=>
  cases rs with
  | nil=>exact w.elim
  | cons ra rr=>
   cases rr with
   | nil=>exact w.elim
   | cons rb rr=>
    cases rr with
    | nil=>exact⟨_,_,rfl,SqT.of hq,rfl,_,_,rfl,_,_,rfl,rfl,w _ H α Ext.refl ⟨s.heap,(s.vs.set ra).set rb⟩⟩
    | cons _ _=>exact w.elim
 | _=>exact w.elim
section
variable {X:Cx}{g:GG}{ε:EE}
theorem gL {tg iter:Expr}{body:List Stmt}{mi:MI}{t:TG}{fg:D->En->Hh->R En}{mb:MS}{pos:Pos} (hp:Q1 (model X.prog X.w) X.A X.env X.xe) (hc:X.calm=true) (hi:PI X tg iter (tMI X.K g ε mi)) (hg:PG X tg t) (ig:FA X.K g ε fg t) (hb:PSs X body (tMS X.K g ε mb))
  (hs:∀x,foldedSetIterable iter X.env x=pure x:=by intro _;rfl):PS X (.For tg iter body [] pos) (tMS X.K g ε (eL mi fg mb)):=by
 refine PS.imp (Gy hp hc hi hg hb hs) fun E σ H ⟨α,env,h,s,w⟩=>?_
 rw[C0] at w
 refine⟨α,env,h,s,w.bind.mono fun sr h1 _ w1 J H1 α1 e1 hr1 rd=>?_⟩
 refine⟨fun i m σ H=>∃α env h,Ext X.K α1 H1 α H/\c_ X.K g α H env σ h/\WQ X.K g ε α H (kG sr.rdr fg mb m i env h) (cP X.K g α H E),⟨sr.fuel h1,α1,env,h1,Ext.refl,s.ext e1 hr1,w1.xt e1⟩,?_⟩
 rintro i m σ2 H2 ⟨α2,env2,h2,x2,s2,w2⟩
 have q:=rd α2 H2 h2 x2 s2.heap i
 unfold kG at w2
 cases e:sr.rdr h2 i with
 | none=>rw[e] at w2;exact w2.elim
 | some od=>
  rw[e] at w2 q
  cases od with
  | none=>exact .inl ⟨q,s2.nx Ext.refl w2⟩
  | some d=>
   cases m with
   | zero=>exact w2.elim
   | succ m=>
    have w3:=WQ.bind (show WQ X.K g ε α2 H2 ((fg d env2 h2).bind _) _ from w2)
    refine .inr ⟨q.1,fun σ' H'=>∃α env h,Ext X.K α1 H1 α H'/\c_ X.K g α H' env σ' h/\WQ X.K g ε α H' (kG sr.rdr fg mb m (i+1) env h) (cP X.K g α H' E),fun σ' H' z=>⟨m,M7 _,z⟩,fun x H3 y=>?_⟩
    obtain⟨α3,x3,hr3,rx⟩:=q.2 x H3 y
    refine ig α3 H3 h2 env2 σ2 d x _ (s2.ext x3 hr3) rx ((w3.ext x3).mono fun e4 h4 _ w4 σ4 H4 α4 x4 s4=>?_)
    refine tMS.use s4 ((w4.ext x3).ext x4).bind fun fl h5 H5 α5 x5 hr5 w5=>?_
    have tr:=x3.trans (x4.trans x5)
    cases fl with
    | nx e=>exact fun σ' s'=>⟨α5,e,h5,x2.trans tr,s',((w5.ext x5)).mono fun _ _ _ p=>p.ext tr⟩
    | ct e=>exact fun σ' s'=>⟨α5,e,h5,x2.trans tr,s',((w5.ext x5)).mono fun _ _ _ p=>p.ext tr⟩
    | bk e=>exact fun σ' s'=>(show cP X.K g α2 H2 E (.nx e) h5 from w5) H5 α5 tr hr5 σ' s'.vs
    | rt d=>exact fun v rv=>(show cP X.K g α2 H2 E (.rt d) h5 from w5) H5 α5 tr hr5 v rv
theorem aU.lst {K:gV}{α:List Addr}{H:Hp}{h:Hh}{n:Nat}{ds:List D} (r:aU K g α H h) (e:aH h n=some ds){p:Addr} (hp:α[n]?=some p):∃vs,H p=some (.lst vs)/\ax K g α H ds vs:=by
 unfold aH at e
 cases o:h[n]? with
 | none=>simp_all
 | some o'=>
  rw[o] at e
  have q:=r.here n p o' hp o
  cases o' with
  | lst ds'=>cases e;assumption
  | set n=>cases e
  | dic k=>cases e
  | dit k=>cases e
noncomputable def pS:D->Hh->R Src
 | .tup ds,h=>.ok (.snap ds) h
 | .frl ds,h=>.ok (.snap ds) h
 | .scr ds,h=>.ok (.snap ds) h
 | .ref n,h=>match aH h n with
  | some _=>.ok (.live n) h
  | none=>.bad
 | _,_=>.bad
noncomputable def bz (a:ME):MI:=fun env h=>(a env h).bind pS
noncomputable def KW (K:gV) (tl:TE):TI:=fun σ H R=>tl σ H fun x H1=>∃a,x=.ref a/\(((∃xs,SqL K H1 a xs)/\R (Itl K a) H1)\/((∃xs,SqT K H1 a xs)/\R (Itt K a) H1))
theorem Fw {tg l:Expr}{tl:TE} (hl:PE X l tl):PI X tg l (KW X.K tl):=by
 intro pins s σ H R I h
 refine thn (hl pins s σ H _ I h) fun v s1 ⟨x,H1,I1,r1,q1⟩=>?_
 obtain⟨a,e,q⟩:=q1
 subst e
 cases r1
 rcases q with⟨⟨xs,hq⟩,q⟩ | ⟨⟨xs,hq⟩,q⟩
 ·obtain⟨its,rv,p,hz⟩:=I1.list hq
  refine P4 p.isList ?_
  refine⟨s1.heap.objs.size,[s1.heap.objs.size],_,_,H1,rfl,I1.kept fun b o e=>ox _ e,yK a _,⟨_,LN _ rfl,rfl,rfl⟩,fun b hb=>?_,q⟩
  have e:b=s1.heap.objs.size:=by simp_all
  subst e
  exact I1.Bq (LH _) (I1.hok.fresh (LH _))
 ·obtain⟨its,rv,p,hz⟩:=I1.tuple hq
  refine NK (show s1.heap.IsTuple a its.toArray from p) ?_
  refine⟨s1.heap.objs.size,[s1.heap.objs.size],_,_,H1,rfl,I1.kept fun b o e=>ox _ e,vQ a _,⟨_,LN _ rfl,rfl,rfl⟩,fun b hb=>?_,q⟩
  have e:b=s1.heap.objs.size:=by simp_all
  subst e
  exact I1.Bq (LH _) (I1.hok.fresh (LH _))
theorem yx {K:gV} (hq':H a=some (.tup vs)) (rs:ax K g α H ds vs):Reads K g (Itt K a) (Src.snap ds).rdr α H:=by
 intro α2 H2 h2 x2 hr i
 have hq2:SqT K H2 a vs:=SqT.of (x2.tup _ _ hq')
 have rs2:=rs.ext x2
 show match some ds[i]? with | none=>True | some none=>_ | some (some d)=>_
 cases e:ds[i]? with
 | none=>
  have:ds.length<=i:=Mv.mp e
  exact⟨vs,hq2,by rw[<- rs.length];lia⟩
 | some d=>
  obtain⟨v,ev,rv⟩:=rs2.get e
  refine⟨⟨vs,v,hq2,ev⟩,fun x H' y=>?_⟩
  obtain⟨e1,e2⟩:=y
  subst e1
  have:=e2 vs hq2
  rw[ev] at this
  cases this
  exact⟨α2,Ext.refl,hr,rv⟩
theorem oK {K:gV} (hq:Fro K H a vs) (rs:ax K g α H ds vs):Reads K g (Itl K a) (Src.snap ds).rdr α H:=by
 intro α2 H2 h2 x2 hr i
 have hq2:=x2.fro _ _ hq
 have rs2:=rs.ext x2
 show match some ds[i]? with | none=>True | some none=>_ | some (some d)=>_
 cases e:ds[i]? with
 | none=>
  have:ds.length<=i:=Mv.mp e
  exact⟨vs,hq2.sq,by rw[<- rs.length];lia⟩
 | some d=>
  obtain⟨v,ev,rv⟩:=rs2.get e
  refine⟨⟨vs,v,hq2.sq,ev⟩,fun x H' y=>?_⟩
  obtain⟨e1,e2⟩:=y
  subst e1
  have:=e2 vs hq2.sq
  rw[ev] at this
  cases this
  exact⟨α2,Ext.refl,hr,rv⟩
theorem yw {K:gV} (ha:α[n]?=some a):Reads K g (Itl K a) (Src.live n).rdr α H:=by
 intro α2 H2 h2 x2 hr i
 show match (aH h2 n).map fun ds=>ds[i]? with | none=>True | some none=>_ | some (some d)=>_
 cases e:aH h2 n with
 | none=>trivial
 | some ds=>
  obtain⟨vs,hq',rs⟩:=hr.lst e (x2.get ha)
  have hq:SqL K H2 a vs:=SqL.of hq'
  show match some ds[i]? with | none=>True | some none=>_ | some (some d)=>_
  cases ei:ds[i]? with
  | none=>
   have:ds.length<=i:=Mv.mp ei
   exact⟨vs,hq,by rw[<- rs.length];lia⟩
  | some d=>
   obtain⟨v,ev,rv⟩:=rs.get ei
   refine⟨⟨vs,v,hq,ev⟩,fun x H' y=>?_⟩
   obtain⟨e1,e2⟩:=y
   subst e1
   have:=e2 vs hq
   rw[ev] at this
   cases this
   exact⟨α2,Ext.refl,hr,rv⟩
theorem cF {tg e:Expr}{me:ME} (he:PE X e (tM X.K g ε me)):PI X tg e (tMI X.K g ε (bz me)):=
 PI.imp (Fw he) fun σ H T ⟨α,env,h,s,w⟩=>tM.use s w.bind fun d1 h1 v1 H1 α1 e1 s1 r1 w1=>by
  unfold pS at w1
  cases r1 with
  | tup hq rs=>exact⟨_,rfl,.inr ⟨⟨_,SqT.of hq⟩,w1 _ H1 α1 e1 s1.heap (yx hq rs)⟩⟩
  | frl hq rs=>exact⟨_,rfl,.inl ⟨⟨_,hq.sq⟩,w1 _ H1 α1 e1 s1.heap (oK hq.fro rs)⟩⟩
  | scr hq rs=>exact⟨_,rfl,.inl ⟨⟨_,hq.sq⟩,w1 _ H1 α1 e1 s1.heap (oK hq rs)⟩⟩
  | @ref n p hp=>
   cases el:aH h1 n with
   | none=>simp only[el] at w1;exact w1.elim
   | some ds=>
    simp only[el] at w1
    obtain⟨vs,hq,_⟩:=s1.heap.lst el hp
    exact⟨p,rfl,.inl ⟨⟨_,SqL.of hq⟩,w1 _ H1 α1 e1 s1.heap (yw hp)⟩⟩
  | _=>exact w1.elim
noncomputable def gC (ds:List D):List D:=(LK ds.length).map fun(i:Nat)=>D.tup [.int i,ds.getD i .non]
noncomputable def wD:D->Hh->R Src
 | .tup ds,h=>.ok (.snap (gC ds)) h
 | .frl ds,h=>.ok (.snap (gC ds)) h
 | .ref n,h=>match aH h n with
  | some _=>.ok (.liveE n) h
  | none=>.bad
 | _,_=>.bad
noncomputable def qp (a:ME):MI:=fun env h=>(a env h).bind wD
theorem pI {ds:List D}{i:Nat}:(gC ds)[i]?=(ds[i]?).map fun d=>D.tup [.int i,d]:=by
 unfold gC
 rw[Me]
 by_cases hi:i<ds.length
 ·have e:ds.getD i .non=ds[i]:=by rw[MR,LU hi];rfl
  rw[PJ hi,LU hi,PK,PK,e]
 ·rw[MJ (by simpa using hi),MJ (by lia)];rfl
theorem nj {K:gV}{i:Nat} (hr:aU K g α H h) (rv:aJ K g α H d v) (hp:H p=none) :
  ∃α',Ext K α H α' (upd H p (.tup [.int i,v]))/\aU K g α' (upd H p (.tup [.int i,v])) h/\aJ K g α' (upd H p (.tup [.int i,v])) (.tup [.int i,d]) (.ref p):=
 ⟨α,Ext.fresh hp,hr.grow hp,.tup a8 (.cons (.int _) (.cons (rv.ext (Ext.fresh hp)) .nil))⟩
theorem tI {K:gV} (hq':H a=some (.tup vs)) (rs:ax K g α H ds vs):Reads K g (Iet K a) (Src.snap (gC ds)).rdr α H:=by
 intro α2 H2 h2 x2 hr i
 have hq2:SqT K H2 a vs:=SqT.of (x2.tup _ _ hq')
 have rs2:=rs.ext x2
 show match some (gC ds)[i]? with | none=>True | some none=>_ | some (some d)=>_
 rw[pI]
 cases e:ds[i]? with
 | none=>
  have:ds.length<=i:=Mv.mp e
  exact⟨vs,hq2,by rw[<- rs.length];lia⟩
 | some d=>
  obtain⟨v,ev,rv⟩:=rs2.get e
  refine⟨⟨vs,v,hq2,ev⟩,fun x H' y=>?_⟩
  obtain⟨p,v',e1,hp,e2,e3⟩:=y
  subst e1 e3
  have:=e2 vs hq2
  rw[ev] at this
  cases this
  exact nj hr rv hp
theorem tU {K:gV} (hq:Fro K H a vs) (rs:ax K g α H ds vs):Reads K g (Iel K a) (Src.snap (gC ds)).rdr α H:=by
 intro α2 H2 h2 x2 hr i
 have hq2:=(x2.fro _ _ hq).sq
 have rs2:=rs.ext x2
 show match some (gC ds)[i]? with | none=>True | some none=>_ | some (some d)=>_
 rw[pI]
 cases e:ds[i]? with
 | none=>
  have:ds.length<=i:=Mv.mp e
  exact⟨vs,hq2,by rw[<- rs.length];lia⟩
 | some d=>
  obtain⟨v,ev,rv⟩:=rs2.get e
  refine⟨⟨vs,v,hq2,ev⟩,fun x H' y=>?_⟩
  obtain⟨p,v',e1,hp,e2,e3⟩:=y
  subst e1 e3
  have:=e2 vs hq2
  rw[ev] at this
  cases this
  exact nj hr rv hp
theorem rR {K:gV} (ha:α[n]?=some a):Reads K g (Iel K a) (Src.liveE n).rdr α H:=by
 intro α2 H2 h2 x2 hr i
 show match (aH h2 n).map fun ds=>(ds[i]?).map fun d=>D.tup [.int i,d] with | none=>True | some none=>_ | some (some d)=>_
 cases e:aH h2 n with
 | none=>trivial
 | some ds=>
  obtain⟨vs,hq',rs⟩:=hr.lst e (x2.get ha)
  have hq:SqL K H2 a vs:=SqL.of hq'
  show match some ((ds[i]?).map fun d=>D.tup [.int i,d]) with | none=>True | some none=>_ | some (some d)=>_
  cases ei:ds[i]? with
  | none=>
   have:ds.length<=i:=Mv.mp ei
   exact⟨vs,hq,by rw[<- rs.length];lia⟩
  | some d=>
   obtain⟨v,ev,rv⟩:=rs.get ei
   refine⟨⟨vs,v,hq,ev⟩,fun x H' y=>?_⟩
   obtain⟨p,v',e1,hp,e2,e3⟩:=y
   subst e1 e3
   have:=e2 vs hq
   rw[ev] at this
   cases this
   exact nj hr rv hp
theorem BV {elts:List Expr}{kt:Nat}{tp p pos:Pos}{e:Expr}{me:ME} (hg:Gl X "enumerate") (hm:X.mg "enumerate" = none) (he:PE X e (tM X.K g ε me)) (hs:starEach [e] X.env=[(false,eval e X.env)]:=by rfl):PI X (.Tuple elts kt tp) (.Call (.Name "enumerate" p) [e] [] pos) (tMI X.K g ε (qp me)):=
 PI.imp (DG hg hm he hs) fun σ H T ⟨α,env,h,s,w⟩=>tM.use s w.bind fun d1 h1 v1 H1 α1 e1 s1 r1 w1=>by
  unfold wD at w1
  cases r1 with
  | tup hq rs=>exact⟨_,rfl,.inr ⟨⟨_,SqT.of hq⟩,w1 _ H1 α1 e1 s1.heap (tI hq rs)⟩⟩
  | frl hq rs=>exact⟨_,rfl,.inl ⟨⟨_,hq.sq⟩,w1 _ H1 α1 e1 s1.heap (tU hq.fro rs)⟩⟩
  | @ref n p hp=>
   cases el:aH h1 n with
   | none=>simp only[el] at w1;exact w1.elim
   | some ds=>
    simp only[el] at w1
    obtain⟨vs,hq,_⟩:=s1.heap.lst el hp
    exact⟨p,rfl,.inl ⟨⟨_,SqL.of hq⟩,w1 _ H1 α1 e1 s1.heap (rR hp)⟩⟩
  | _=>exact w1.elim
noncomputable def bC (lo:Int) (n:Nat):List D:=(LK n).map fun(i:Nat)=>D.int (lo+i)
noncomputable def fC:List D->Hh->R Src
 | [.int j],h=>if j.natAbs<=1000000 then .ok (.snap (bC 0 j.toNat)) h else .bad
 | _,_=>.bad
noncomputable def vG:List D->Hh->R Src
 | [.int i,.int j],h=>if i.natAbs<=1000000/\j.natAbs<=1000000 then .ok (.snap (bC i (j - i).toNat)) h else .bad
 | _,_=>.bad
noncomputable def eS (f:List D->Hh->R Src) (a:MA):MI:=fun env h=>(a env h).bind f
theorem pD {K:gV}{lo:Int}:Reads K g (Itr lo n) (Src.snap (bC lo n)).rdr α H:=by
 intro α2 H2 h2 x2 hr i
 show match some (bC lo n)[i]? with | none=>True | some none=>_ | some (some d)=>_
 unfold bC
 rw[Me]
 by_cases hi:i<n
 ·rw[PJ hi]
  refine⟨hi,fun x H' y=>?_⟩
  obtain⟨e1,e2⟩:=y
  subst e1 e2
  exact⟨α2,Ext.refl,hr,.int _⟩
 ·rw[MJ (by simp_all)]
  exact Nat.le_of_not_lt hi
theorem d9 {tg a:Expr}{ma:MA}{p pos:Pos} (hg:Gl X "range") (hm:X.mg "range" = none) (ha:PA X [a] (tMA X.K g ε ma)) (hs:starEach [a] X.env=[(false,eval a X.env)]:=by rfl):PI X tg (.Call (.Name "range" p) [a] [] pos) (tMI X.K g ε (eS fC ma)):=
 PI.imp (zb hg hm ha hs) fun σ H T ⟨α,env,h,s,w⟩=>tMA.use s w.bind fun d1 h1 v1 H1 α1 e1 s1 r1 w1=>by
  cases r1 with
  | nil=>exact w1.elim
  | cons ra rr=>
   cases rr with
   | cons _ _=>cases ra<;>exact w1.elim
   | nil=>
    cases ra with
    | int j=>
     obtain⟨hj,w2⟩:=WQ.eT w1
     exact⟨j,rfl,by lia,by lia,w2 _ H1 α1 e1 s1.heap pD⟩
    | _=>exact w1.elim
theorem Ca {tg a b:Expr}{ma:MA}{p pos:Pos} (hg:Gl X "range") (hm:X.mg "range" = none) (ha:PA X [a,b] (tMA X.K g ε ma)) (hs:starEach [a,b] X.env=[(false,eval a X.env),(false,eval b X.env)]:=by rfl) (hs2:starEach [b] X.env=[(false,eval b X.env)]:=by rfl):PI X tg (.Call (.Name "range" p) [a,b] [] pos) (tMI X.K g ε (eS vG ma)):=
 PI.imp (x9 hg hm ha hs hs2) fun σ H T ⟨α,env,h,s,w⟩=>tMA.use s w.bind fun d1 h1 v1 H1 α1 e1 s1 r1 w1=>by
  unfold vG at w1
  split at w1
  ·cases r1 with
   | cons ra rr=>
    cases ra
    cases rr with
    | cons rb rr=>
     cases rb
     cases rr
     obtain⟨hj,w2⟩:=WQ.eT w1
     exact⟨_,_,rfl,⟨by lia,by lia,by lia,by lia⟩,w2 _ H1 α1 e1 s1.heap pD⟩
  ·exact w1.elim
noncomputable def gg (c:MT) (b:MS):Nat->En->Hh->R Fl
 | 0,_,_=>.bad
 | k+1,env,h=>(c env h).bind fun x h1=>if x=true then (b env h1).bind fun fl h2=>match fl with
   | .nx e=>gg c b k e h2
   | .ct e=>gg c b k e h2
   | .bk e=>.ok (.nx e) h2
   | .rt d=>.ok (.rt d) h2
  else .ok (.nx env) h1
noncomputable def uQ (fuel:Nat) (c:MT) (b:MS):MS:=fun env h=>gg c b fuel env h
theorem B4 {c:Expr}{body:List Stmt}{mc:MT}{mb:MS}{pos:Pos} (fuel:Nat) (hp:Q1 (model X.prog X.w) X.A X.env X.xe) (hc:PT X c (tMT X.K g ε mc)) (hb:PSs X body (tMS X.K g ε mb)):PS X (.While c body [] pos) (tMS X.K g ε (uQ fuel mc mb)):=by
 refine PS.imp (Ad hp hc hb) fun E σ H ⟨α,env,h,s,w⟩=>?_
 refine⟨fun m σ H=>∃α env h,c_ X.K g α H env σ h/\WQ X.K g ε α H (gg mc mb m env h) (cP X.K g α H E),⟨fuel,α,env,h,s,w⟩,?_⟩
 rintro m σ2 H2 ⟨α2,env2,h2,s2,w2⟩
 cases m with
 | zero=>exact w2.elim
 | succ m=>
  refine tMT.use s2 (WQ.bind (show WQ X.K g ε α2 H2 ((mc env2 h2).bind _) _ from w2)) fun b h3 H3 α3 x3 s3 w3=>?_
  cases b with
  | false=>rw[if_neg Mm] at w3 ⊢;exact s3.nx x3 w3
  | true=>
   refine⟨fun σ' H'=>∃α env h,c_ X.K g α H' env σ' h/\WQ X.K g ε α H' (gg mc mb m env h) (cP X.K g α H' E),fun σ' H' z=>⟨m,M7 _,z⟩,?_⟩
   refine tMS.use s3 (w3.ext x3).bind fun fl h5 H5 α5 x5 hr5 w5=>?_
   have tr:=x3.trans x5
   cases fl with
   | nx e=>exact fun σ' s'=>⟨α5,e,h5,s',(w5.ext x5).mono fun _ _ _ p=>p.ext tr⟩
   | ct e=>exact fun σ' s'=>⟨α5,e,h5,s',(w5.ext x5).mono fun _ _ _ p=>p.ext tr⟩
   | bk e=>exact fun σ' s'=>(show cP X.K g α2 H2 E (.nx e) h5 from w5) H5 α5 tr hr5 σ' s'.vs
   | rt d=>exact fun v rv=>(show cP X.K g α2 H2 E (.rt d) h5 from w5) H5 α5 tr hr5 v rv
end
noncomputable abbrev E00:EE:=fun _ _ _=>False
noncomputable abbrev MF:=List D->Hh->R D
noncomputable def b9 (n:Nat) (m:MS):MF:=fun ds h=>(m (ds.map some++Mq (n - ds.length) none) h).bind fun fl h1=>match fl with
 | .rt d=>.ok d h1
 | .nx _=>.ok .non h1
 | _=>.bad
noncomputable def spG (K:gV) (g:GG) (ε:XK->EE) (np:Nat) (m:MF):Sp:=fun vs H Q E=>vs.length=np/\∃α ds h,ax K g α H ds vs/\aU K g α H h/\WQ K g (ε E) α H (m ds h) (aR K g α H Q)
noncomputable abbrev spM (K:gV) (g:GG) (np:Nat) (m:MF):Sp:=spG K g (fun _=>E00) np m
theorem o7 {K:gV}{g:GG}{α:List Addr}{H:Hp}{N:List Str}{ds:List D}{vs:List V} (r:ax K g α H ds vs):ik K g α H (ds.map some++Mq (N.length - ds.length) none) (start N vs):=by
 have hl:=r.length
 refine⟨by simp[start,hl],fun i d h=>?_⟩
 by_cases hi:i<ds.length
 ·rw[LV (by simpa using hi),Me] at h
  cases e:ds[i]? with
  | none=>rw[e] at h;cases h
  | some d'=>
   rw[e] at h
   cases h
   obtain⟨v,ev,rv⟩:=r.get e
   refine⟨v,?_,rv⟩
   unfold start
   rw[LV (by simp;lia),Me,ev]
   rfl
 ·rw[LY (by simpa using hi),Oj] at h
  split at h<;>cases h
section
variable {P:Mc}{w:MU}{K:gV}{mg:Str->Option LM}{base:Heap}{g:GG}
theorem uS {st:Stmt} (F:Fun K x qual st f fd) (S:aF N ps (ak st))
  (hb:∀cdv A outer s H E , eP k (A.deeper (envOfC qual (ak st) s.heap.objs.size f cdv)) →
   PSs (jj CX0 P w K mg base N qual (ak st) f cdv A outer s H E).nox (cA st) (tMS K g E00 mb)):dI P w K mg base CX0 (k+1) f fd ps (spM K g ps.length (b9 N.length mb)):=by
 refine F.ok S (fun vs H Q E h=>h.1) fun cdv A outer s H vs Q E hr h=>⟨_,hb cdv A outer s H E hr,?_⟩
 obtain⟨hl,α,ds,h,rs,hh,w⟩:=h
 refine tMS.use ⟨hh,o7 rs⟩ w.bind fun fl h' H' α' e r kk=>?_
 cases fl with
 | nx e'=>exact fun σ' s'=>(show aR K g α H Q .non h' from kk) _ H' α' e r .non
 | bk e'=>exact kk.elim
 | ct e'=>exact kk.elim
 | rt d=>exact fun v rv=>(show aR K g α H Q d h' from kk) _ H' α' e r rv
end
section
variable {X:Cx}{g:GG}
theorem Cy {k:Nat}{f:Addr}{fd:Pf}{ps:List Str}{m:MF}{np:Nat}{x:Str}{p pos:Pos}{e:Expr}{es:List Expr}{mr:MA} (F:dI X.prog X.w X.K X.mg X.base CX0 k f fd ps (spM X.K g np m)) (hr:eP k X.A) (hg:Gl X x) (hm:X.mg x=some (.ref f)) (hk:M5 X.K (.ref f)=true) (hb:Binds X.K fd ps [])
  (ha:PA X (e::es) (tMA X.K g E00 mr)) (hlen:∀env h ds h',mr env h=.ok ds h'->ds.length=np) (hdb:(x == ("__debug__" : Str))=false:=by decide) (he:starEach (e::es) X.env=(false,eval e X.env)::starEach es X.env:=by rfl) (hpl:(backTo pos (starEach es X.env)).any (·.1)=false:=by rfl) :
  PE X (.Call (.Name x p) (e::es) [] pos) (tM X.K g E00 (ah m mr)):=
 PE.imp (BL F hr hg hm hk hb .nil HX ha hdb he hpl) fun σ H Q ⟨α,env,h,s,w⟩=>⟨α,env,h,s,w.bind.mono fun d1 h1 eq w1 v1 H1 α1 e1 hr1 r1=>by
  show spM X.K g np m (v1++[]) H1 Q E0
  rw[NF]
  refine⟨?_,α1,d1,h1,r1,hr1,w1.post e1⟩
  rw[<- r1.length]
  grind⟩
theorem ar:∀env h ds h',aj env h=.ok ds h'->ds.length=0:=fun env h ds h' e=>by cases e;rfl
theorem ag {a:ME}{r:MA}{n:Nat} (q:∀env h ds h',r env h=.ok ds h'->ds.length=n):∀env h ds h',aa a r env h=.ok ds h'->ds.length=n+1:=fun env h ds h' e=>by
 unfold aa at e
 cases e1:a env h with
 | ok d h1=>
  rw[e1] at e
  cases e2:r env h1 with
  | ok ds2 h2=>
   have e3:(R.ok (d::ds2) h2:R (List D))=.ok ds h':=by simpa [R.bind,e2] using e
   grind
  | err x h2=>simp[R.bind,e2] at e
  | bad=>simp[R.bind,e2] at e
 | err x h2=>rw[e1] at e;cases e
 | bad=>rw[e1] at e;cases e
end
noncomputable def je (ix:List Nat) (env:En) (d:D):En:=some d::ix.map fun i=>(env[i]?).join
noncomputable def tt1:MT:=fun _ h=>.ok true h
noncomputable def f7 (rd:Rdr) (tt:MT) (te:ME) (ee:D->En):Nat->Nat->List D->Hh->R (List D)
 | k,i,acc,h=>match rd h i with
  | none=>.bad
  | some none=>.ok acc h
  | some (some d)=>match k with
   | 0=>.bad
   | k+1=>(tt (ee d) h).bind fun b h1=>if b=true then (te (ee d) h1).bind fun y h2=>f7 rd tt te ee k (i+1) (acc++[y]) h2 else f7 rd tt te ee k (i+1) acc h1
noncomputable def bX (tt:MT) (te:ME) (ee:D->En):List D->Hh->R (List D)
 | [],h=>.ok [] h
 | d::ds,h=>(tt (ee d) h).bind fun b h1=>if b=true then (te (ee d) h1).bind fun y h2=>(bX tt te ee ds h2).bind fun ys h3=>.ok (y::ys) h3 else bX tt te ee ds h1
theorem bG (r:R β) (f) (k:γ->Hh->R δ):(r.bind f).bind k=r.bind fun b h=>(f b h).bind k:=by cases r<;>rfl
theorem Ak (tt:MT) (te:ME) (ee:D->En) (all:List D):∀(ds:List D) (i:Nat) (acc:List D) (h:Hh),all.drop i=ds->f7 (Src.snap all).rdr tt te ee ds.length i acc h=(bX tt te ee ds h).bind fun ys h'=>.ok (acc++ys) h':=by
 intro ds
 induction ds with
 | nil=>
  intro i acc h e
  have:all[i]?=none:=by
   simp_all
  unfold f7 bX Src.rdr
  simp[this,R.bind]
 | cons d ds ih=>
  intro i acc h e
  have h0:all[i]?=some d:=by
   have:=congrArg (fun l=>l[0]?) e
   grind
  have h1:all.drop (i+1)=ds:=by
   have:=congrArg List.tail e
   simpa using this
  unfold f7 bX
  have:(Src.snap all).rdr h i=some (some d):=by unfold Src.rdr;simp[h0]
  rw[this]
  show((tt (ee d) h).bind _)=_
  rw[bG]
  congr 1
  funext b h2
  cases b with
  | false=>simp_all
  | true=>
   rw[if_pos rfl,if_pos rfl,bG]
   congr 1
   funext y h3
   rw[bG]
   have:=ih (i+1) (acc++[y]) h3 h1
   rw[this]
   congr 1
   funext ys h4
   show R.ok (acc++[y]++ys) h4=R.ok (acc++(y::ys)) h4
   simp
noncomputable def bu (nl:NL) (mi:MI) (ix:List Nat) (tt:MT) (te:ME):ME:=fun env h=>(mi env h).bind fun sr h1=>if sr.fuel h1<=1000000 then
 (match sr with
  | .snap ds=>bX tt te (je ix env) ds h1
  | .live n=>f7 (Src.live n).rdr tt te (je ix env) ((aH h1 n).getD []).length 0 [] h1
  | .liveE n=>f7 (Src.liveE n).rdr tt te (je ix env) ((aH h1 n).getD []).length 0 [] h1).bind nl else .bad
theorem uC:bu nl mi ix tt te env h=(mi env h).bind fun sr h1=>if sr.fuel h1<=1000000 then (f7 sr.rdr tt te (je ix env) (sr.fuel h1) 0 [] h1).bind nl else .bad:=by
 unfold bu
 congr 1
 funext sr h1
 cases sr with
 | snap ds=>
  have:=Ak tt te (je ix env) ds ds 0 [] h1 rfl
  have e:(Src.snap ds).fuel h1=ds.length:=rfl
  rw[e,this,bG]
  rfl
 | live n=>rfl
 | liveE n=>rfl
theorem xI {K:gV}{g:GG}{α:List Addr}{H:Hp}{env:En}{σ:St}{ix:List Nat}{d:D}{v:V} (s:ik K g α H env σ) (r:aJ K g α H d v):ik K g α H (je ix env d) ((o_ ix σ).set 0 (some v)):=by
 refine⟨by simp[je,o_],fun i e h=>?_⟩
 cases i with
 | zero=>
  have:d=e:=by simpa [je] using h
  subst this
  exact⟨v,by rfl,r⟩
 | succ i=>
  have h':(ix.map fun i=>(env[i]?).join)[i]?=some (some e):=by assumption
  rw[Me] at h'
  cases ei:ix[i]? with
  | none=>simp_all
  | some j=>
   rw[ei] at h'
   have h2:(env[j]?).join=some e:=by simp_all
   cases ej:env[j]? with
   | none=>simp_all
   | some oe=>
    rw[ej] at h2
    have h3:oe=some e:=by simp_all
    subst h3
    obtain⟨u,eu,ru⟩:=s.vars j e ej
    refine⟨u,?_,ru⟩
    simp only[o_,List.set_cons_zero,List.getElem?_cons_succ,Me,ei,PK,eu]
    rfl
section
variable {X:Cx}{g:GG}
theorem hW:PTs X [] (tMT X.K g E00 tt1):=fun pins s σ H Q I ⟨α,env,h,s',w⟩=>BW pins s σ H Q I (w H α Ext.refl s'.heap)
theorem gv {mt:MT} (h:PT X c (tMT X.K g E00 mt)):PTs X [c] (tMT X.K g E00 mt):=Cc h
theorem uA {K:gV}{nl:NL} [iq nl]{mi:MI}{tt:MT}{te:ME}{ix:List Nat}{σ:St}{H:Hp}{Q R:VK} (hR:∀v H,g9 Q v H->R v H) (t:tM K g E00 (bu nl mi ix tt te) σ H Q):D_ (tMI K g E00 mi) ix (tMT K g E00 tt) (tM K g E00 te) σ H R:=by
 obtain⟨α,env,h,s,w⟩:=t
 rw[uC] at w
 refine⟨α,env,h,s,w.bind.mono fun sr h1 _ w1 J H1 α1 e1 hr1 rd=>fun acc hacc=>?_⟩
 obtain⟨hf,w1⟩:=WQ.eT w1
 have s1:=s.ext e1 hr1
 refine⟨fun i m ys H=>∃α h as,Ext K α1 H1 α H/\aU K g α H h/\ax K g α H as ys/\H acc=some (.lst ys)/\acc∉α/\as.length+m<=1000000 ∧
  WQ K g E00 α1 H1 ((f7 sr.rdr tt te (je ix env) m i as h).bind nl) (aR K g α1 H1 Q),
  ⟨sr.fuel h1,α1,h1,[],Ext.fresh hacc,hr1.grow hacc,.nil,a8,hr1.free hacc,by simp_all,w1.post e1⟩,?_⟩
 rintro i m ys H2 ⟨α2,h2,as,x2,hr2,ra,ha,hna,hm,w2⟩
 have q:=rd α2 H2 h2 x2 hr2 i
 unfold f7 at w2
 cases e:sr.rdr h2 i with
 | none=>rw[e] at w2;exact w2.elim
 | some od=>
  rw[e] at w2 q
  cases od with
  | none=>
   refine .inl ⟨q,?_⟩
   exact hR _ _ <| iq.at' (show WQ K g E00 α1 H1 (nl as h2) _ from w2) (fun _ _ z=>z) x2 hr2 ra ha hna hacc
  | some d=>
   cases m with
   | zero=>exact w2.elim
   | succ m=>
    rw[bG] at w2
    have w3:=WQ.bind (show WQ K g E00 α1 H1 ((tt (je ix env d) h2).bind _) _ from w2)
    refine .inr ⟨q.1,fun x H3 y=>?_⟩
    obtain⟨α3,x3,hr3,rx⟩:=q.2 x H3 y
    have ha3:=x3.keep _ _ ha hna
    have hna3:acc∉α3:=fun z=>by have:=x3.new _ z hna;simp_all
    have s3:c_ K g α3 H3 (je ix env d) ((o_ ix σ).set 0 (some x)) h2:=⟨hr3,xI (s1.vs.ext (x2.trans x3)) rx⟩
    refine tMT.use s3 ((w3.ext x2).ext x3) fun b h4 H4 α4 x4 s4 w4=>?_
    have ha4:=x4.keep _ _ ha3 hna3
    have hna4:acc∉α4:=fun z=>by have:=x4.new _ z hna3;simp_all
    cases b with
    | false=>
     exact⟨m,M7 _,α4,h4,as,x2.trans (x3.trans x4),s4.heap,ra.ext (x3.trans x4),ha4,hna4,by lia,w4⟩
    | true=>
     rw[if_pos rfl] at w4 ⊢
     rw[bG] at w4
     refine tM.use s4 (((WQ.bind w4).ext x2).ext (x3.trans x4)) fun y h5 v5 H5 α5 x5 s5 r5 w5=>?_
     have ha5:=x5.keep _ _ ha4 hna4
     have hna5:acc∉α5:=fun z=>by have:=x5.new _ z hna4;simp_all
     have soft:zT H5 acc:=.inr ⟨_,ha5,fun _ z=>(nomatch z),fun _ _ z=>(nomatch z),fun _ z=>nomatch z⟩
     have x6:Ex0 K α5 H5 α5 (upd H5 acc (.lst (ys++[v5]))):=Ex0.upd soft
     have tr:=x2.trans (x3.trans (x4.trans x5))
     refine⟨ha5,?_,m,M7 _,α5,h5,as++[y],⟨tr.toEx0.trans x6,fun p o z n nt=>?_,tr.new⟩,s5.heap.off soft hna5,((ra.ext (x3.trans (x4.trans x5))).append (.cons r5 .nil)).ex0 x6,a8,hna5,by grind,w5⟩
     ·rw[<- ra.length,MV];lia
     ·rw[aK (br z hacc)];exact tr.kept p o z n nt
noncomputable def unp (m:En->Hh->R β):En->Hh->R β:=fun env h=>match env with
 | some (.tup [x,y])::r=>m (some x::some y::r) h
 | _=>.bad
theorem Fy {K:gV}{r:En}{k:β->Hh->Prop} (rx:aJ K g α H d x) (w:WQ K g ε α' H' (unp m (some d::r) h) k) :
  ∃a b p va vb,d=.tup [a,b]/\x=.ref p/\H p=some (.tup [va,vb])/\aJ K g α H a va/\aJ K g α H b vb/\WQ K g ε α' H' (m (some a::some b::r) h) k:=by
 cases rx with
 | tup hp rs=>
  cases rs with
  | nil=>exact w.elim
  | cons ra rr=>
   cases rr with
   | nil=>exact w.elim
   | cons rb rr=>
    cases rr with
    | nil=>exact⟨_,_,_,_,_,rfl,rfl,hp,ra,rb,w⟩
    | cons _ _=>exact w.elim
 | _=>exact w.elim
theorem Ag {K:gV}{ix:List Nat} (s:ik K g α H env σ) (r:aJ K g α H d v) (q:aJ K g α H e u):ik K g α H (some d::some e::ix.map fun i=>(env[i]?).join) (some v::some u::ix.map fun i=>(σ[i]?).join):=by
 have z:=xI (ix:=ix) s q
 have e1:(o_ ix σ).set 0 (some u)=some u::ix.map fun i=>(σ[i]?).join:=rfl
 rw[e1] at z
 refine⟨by simp,fun i x h=>?_⟩
 cases i with
 | zero=>simp_all
 | succ i=>
  obtain⟨y,ey,ry⟩:=z.vars i x (by assumption)
  simp_all
theorem yQ {K:gV}{nl:NL} [iq nl]{mi:MI}{tt:MT}{te:ME}{ix:List Nat}{σ:St}{H:Hp}{Q R:VK} (hR:∀v H,g9 Q v H->R v H) (t:tM K g E00 (bu nl mi ix (unp tt) (unp te)) σ H Q):mG (tMI K g E00 mi) 2 ix (BC K 2 (jC (dD 0) (jC (dD 1) zq))) (tMT K g E00 tt) (tM K g E00 te) σ H R:=by
 obtain⟨α,env,h,s,w⟩:=t
 rw[uC] at w
 refine⟨α,env,h,s,w.bind.mono fun sr h1 _ w1 J H1 α1 e1 hr1 rd=>fun acc hacc=>?_⟩
 obtain⟨hf,w1⟩:=WQ.eT w1
 have s1:=s.ext e1 hr1
 refine⟨fun i m ys H=>∃α h as,Ext K α1 H1 α H/\aU K g α H h/\ax K g α H as ys/\H acc=some (.lst ys)/\acc∉α/\as.length+m<=1000000 ∧
  WQ K g E00 α1 H1 ((f7 sr.rdr (unp tt) (unp te) (je ix env) m i as h).bind nl) (aR K g α1 H1 Q),
  ⟨sr.fuel h1,α1,h1,[],Ext.fresh hacc,hr1.grow hacc,.nil,a8,hr1.free hacc,by simp_all,w1.post e1⟩,?_⟩
 rintro i m ys H2 ⟨α2,h2,as,x2,hr2,ra,ha,hna,hm,w2⟩
 have q:=rd α2 H2 h2 x2 hr2 i
 unfold f7 at w2
 cases e:sr.rdr h2 i with
 | none=>rw[e] at w2;exact w2.elim
 | some od=>
  rw[e] at w2 q
  cases od with
  | none=>
   refine .inl ⟨q,?_⟩
   exact hR _ _ <| iq.at' (show WQ K g E00 α1 H1 (nl as h2) _ from w2) (fun _ _ z=>z) x2 hr2 ra ha hna hacc
  | some d=>
   cases m with
   | zero=>exact w2.elim
   | succ m=>
    rw[bG] at w2
    have w3:=WQ.bind (show WQ K g E00 α1 H1 ((unp tt (je ix env d) h2).bind _) _ from w2)
    refine .inr ⟨q.1,fun σ0 x H3 ⟨ts,tl,e0⟩ y=>?_⟩
    obtain⟨α3,x3,hr3,rx⟩:=q.2 x H3 y
    have ha3:=x3.keep _ _ ha hna
    have hna3:acc∉α3:=fun z=>by have:=x3.new _ z hna;simp_all
    obtain⟨da,db,pp,va,vb,rfl,rfl,hq,rda,rdb,w3'⟩:=Fy rx ((w3.ext x2).ext x3)
    obtain⟨t0,t1,rfl⟩:∃t0 t1,ts=[t0,t1]:=by
     match ts,tl with
     | [t0,t1],_=>simp
    subst e0
    refine⟨_,_,rfl,SqT.of hq,rfl,_,_,rfl,_,_,rfl,rfl,⟨[some va,some vb],rfl,rfl⟩,?_⟩
    have s3:c_ K g α3 H3 (some da::some db::ix.map fun i=>(env[i]?).join) (some va::some vb::ix.map fun i=>(σ[i]?).join) h2:=⟨hr3,Ag (s1.vs.ext (x2.trans x3)) rda rdb⟩
    refine tMT.use s3 w3' fun b h4 H4 α4 x4 s4 w4=>?_
    have ha4:=x4.keep _ _ ha3 hna3
    have hna4:acc∉α4:=fun z=>by have:=x4.new _ z hna3;simp_all
    cases b with
    | false=>
     exact⟨m,M7 _,α4,h4,as,x2.trans (x3.trans x4),s4.heap,ra.ext (x3.trans x4),ha4,hna4,by lia,w4⟩
    | true=>
     rw[if_pos rfl] at w4 ⊢
     rw[bG] at w4
     refine tM.use s4 (((WQ.bind w4).ext x2).ext (x3.trans x4)) fun y h5 v5 H5 α5 x5 s5 r5 w5=>?_
     have ha5:=x5.keep _ _ ha4 hna4
     have hna5:acc∉α5:=fun z=>by have:=x5.new _ z hna4;simp_all
     have soft:zT H5 acc:=.inr ⟨_,ha5,fun _ z=>(nomatch z),fun _ _ z=>(nomatch z),fun _ z=>nomatch z⟩
     have x6:Ex0 K α5 H5 α5 (upd H5 acc (.lst (ys++[v5]))):=Ex0.upd soft
     have tr:=x2.trans (x3.trans (x4.trans x5))
     refine⟨ha5,?_,m,M7 _,α5,h5,as++[y],⟨tr.toEx0.trans x6,fun p o z n nt=>?_,tr.new⟩,s5.heap.off soft hna5,((ra.ext (x3.trans (x4.trans x5))).append (.cons r5 .nil)).ex0 x6,a8,hna5,by grind,w5⟩
     ·rw[<- ra.length,MV];lia
     ·rw[aK (br z hacc)];exact tr.kept p o z n nt
theorem pg2 (hc:X.calm=true) (hn:X.N.Nodup) (h0:X.N[0]?=some x) (h1:X.N[1]?=some y) (hx:Loc X.env.scope x/\X.env.scope.names.lookup x=some .local) (hy:Loc X.env.scope y/\X.env.scope.names.lookup y=some .local) :
  PG X (.Tuple [.Name x px,.Name y py] kt pt) (BC X.K 2 (jC (dD 0) (jC (dD 1) zq))):=uP hc (gJ (dU hn h0 hx.1 (.inr hx.2)) (gJ (dU hn h1 hy.1 (.inr hy.2)) qz))
theorem uE {nl:NL} [iq nl]{elt iter:Expr}{x y:Str}{px py pt:Pos}{kt:Nat}{ifs:List Expr}{scope osc:Pg}{pos:Pos}{mi:MI}{tt:MT}{te:ME} (ix:List Nat) (N':List Str)
  (hxe:X.xe=fun _ _=>False) (hc:X.calm=true) (ho:X.env.scope=osc) (hN:N'=[x,y]++ix.map fun i=>(X.N[i]?).getD ("" : Str)) (hnd:N'.Nodup)
  (hall:(∀y∈scope.names,y.2=.free->osc.names.lookup y.1=some .cell)/\(∀y∈scope.names,y.2≠.cell)/\scope.kind=.function/\(∀y∈scope.names,y.2=.local->scope.names.lookup y.1=some .local)/\(∀z∈N'.drop [x,y].length,scope.names.lookup z=some .free))
  (hi:PI X (.Tuple [.Name x px,.Name y py] kt pt) iter (tMI X.K g E00 mi))
  (hx:∀cl C au av fp,Loc (aL X scope cl C au av fp N').env.scope x/\(aL X scope cl C au av fp N').env.scope.names.lookup x=some .local) (hy:∀cl C au av fp,Loc (aL X scope cl C au av fp N').env.scope y/\(aL X scope cl C au av fp N').env.scope.names.lookup y=some .local)
  (ht:∀cl C au av fp,PTs (aL X scope cl C au av fp N') ifs (tMT X.K g E00 tt))
  (he:∀cl C au av fp,PE (aL X scope cl C au av fp N') elt (tM X.K g E00 te))
  (hs:∀x,foldedSetIterable iter X.env x=pure x:=by intro _;rfl) :
  PE X (.ListComp elt [⟨.Tuple [.Name x px,.Name y py] kt pt,iter,ifs,0⟩] scope pos) (tM X.K g E00 (bu nl mi ix (unp tt) (unp te))):=by
 refine PE.imp (PE.frz (ui (tgr:=BC X.K 2 (jC (dD 0) (jC (dD 1) zq))) ix [x,y] N' hxe hc ho hN hnd hall hi (fun cl C au av fp=>pg2 hc hnd (show N'[0]?=some x by rw[hN];rfl) (show N'[1]?=some y by rw[hN];rfl) (hx cl C au av fp) (hy cl C au av fp)) ht he hs)) fun σ H Q t=>?_
 exact yQ (fun _ _ z=>z) t
end
noncomputable def sml (i:Int):Bool:=decide (i.natAbs<2 ^ 1900)
theorem iQ (h:sml i=true):OQ i<=1900:=by
 have h':=of_decide_eq_true h
 unfold OQ
 split
 ·lia
 ·rename_i z
  have z':i.natAbs≠0:=by
   simp_all
  have:=(Nat.log2_lt z').mpr h'
  lia
theorem Dp (h:sml i=true):i.natAbs.log2<1900:=by
 have h':=of_decide_eq_true h
 by_cases z:i.natAbs=0
 ·simp_all
 ·exact(Nat.log2_lt z).mpr h'
theorem qV (h:i.natAbs<=10 ^ 560):sml i=true:=by
 refine decide_eq_true (Nat.lt_of_le_of_lt h (by lia))
section
variable {X:Cx}{K:gV}{g:GG}{ε:EE}
theorem OpR.or (h:OpR X f r) (h':OpR X f r'):OpR X f (fun x y H Q=>r x y H Q\/r' x y H Q):=fun pins s σ H x y v u Q I rx ry q=>q.elim (h pins s σ H x y v u Q I rx ry) (h' pins s σ H x y v u Q I rx ry)
noncomputable def gm (d:D) (h:Hh):Option (List D):=match d with
 | .frl ds=>some ds
 | .ref n=>aH h n
 | _=>none
theorem pV (r:aU K g α H h) (rd:aJ K g α H d x) (e:gm d h=some ds):∃p vs,x=.ref p/\Rd H p (.lst vs)/\ax K g α H ds vs:=by
 cases rd with
 | frl hq rs=>cases e;exact⟨_,_,rfl,hq.rd,rs⟩
 | ref hp=>obtain⟨vs,hv,rs⟩:=r.lst e hp;exact⟨_,vs,rfl,.inl hv,rs⟩
 | _=>cases e
noncomputable def Ea:R2:=fun x y H Q=>∃l b xs zs,x=.ref l/\y=.ref b/\Rd H l (.lst xs)/\Rd H b (.lst zs)/\xs.length+zs.length<=sizeLine/\∀p,H p=none->Q (.ref p) (upd H p (.lst (xs++zs)))
theorem FP {σ:St} (I:Inv X pins σ H s) (h:Rd H l (.lst xs)):∃its n,xs.length<=sizeLine/\Vals xs its/\xs.length=its.length/\s.heap.get? l=some { cls:=.type "list", data:=.seq its.toArray n }:=by
 obtain⟨z,its,n,r,e⟩:=h.ok I.hok
 exact⟨its,n,z,r,r.length,e⟩
theorem Ds:OpR X (binaryOp .Add) Ea:=by
 intro pins s σ H x y v u Q I rx ry h
 obtain⟨l,b,xs,zs,rfl,rfl,hH,hB,hz,q⟩:=h
 cases rx
 cases ry
 obtain⟨its,n,z,r,hl,e⟩:=FP I hH
 obtain⟨its2,n2,z2,r2,hl2,e2⟩:=FP I hB
 refine PySem.P.add_list e e2 ?_ (by simp_all)
 have ea:its.toArray++its2.toArray=(its++its2).toArray:=by simp
 rw[ea]
 exact⟨.ref _,_,I.AX (r.append r2) (by simp_all),rfl,q _ I.fresh⟩
noncomputable def bQ (nl:NL):D->D->Hh->R D:=fun x y h=>match x,y with
 | .int i,.int j=>.ok (.int (i+j)) h
 | .tup a,.tup b=>if a.length+b.length<=1000000 then .ok (.tup (a++b)) h else .bad
 | .str a,.str b=>if a.length+b.length<=1000000 then .ok (.str (a++b)) h else .bad
 | x,y=>match gm x h,gm y h with
  | some a,some b=>if a.length+b.length<=1000000 then nl (a++b) h else .bad
  | _,_=>.bad
noncomputable abbrev A3 (K:gV):R2:=fun x y H Q=>(rI0 fun i j=>.int (i+j)) x y H Q\/(DL K x y H Q\/zQ K x y H Q)\/Ea x y H Q\/∃i j,x=.str i/\y=.str j/\i.length+j.length<=sizeLine/\Q (.str (i++j)) H
theorem EF:OpR X (binaryOp .Add) (fun x y H Q=>A3 X.K x y H (g9 Q)):=OpR.frz (OpR.or Fx (OpR.or (OpR.or B_ Bl) (OpR.or Ds vF)))
theorem aR.yR (p:aR K g α H Q d h) (r:aU K g α H h) (rd:aJ K g α H d v):g9 Q v H:=.inl (p.now r rd)
theorem Fd {nl:NL} [iq nl]:dS K g ε (bQ nl) (fun x y H Q=>A3 K x y H (g9 Q)):=by
 intro α H h a b x y Q r ra rb w
 have gen:∀{a b:D} {x y:V},aJ K g α H a x->aJ K g α H b y->WQ K g ε α H (match gm a h,gm b h with
  | some a,some b=>if a.length+b.length<=1000000 then nl (a++b) h else .bad
  | _,_=>.bad) (aR K g α H Q)->A3 K x y H (g9 Q):=by
  intro a b x y ra rb w
  cases e1:gm a h with
  | none=>simp only[e1] at w;exact w.elim
  | some da=>
   cases e2:gm b h with
   | none=>simp only[e1,e2] at w;exact w.elim
   | some db=>
    simp only[e1,e2] at w
    obtain⟨p,va,rfl,hva,rsa⟩:=pV r ra e1
    obtain⟨q,vb,rfl,hvb,rsb⟩:=pV r rb e2
    obtain⟨hl,w⟩:=WQ.eT w
    refine .inr (.inr (.inl ⟨p,q,va,vb,rfl,rfl,hva,hvb,gZ (by rw[<- rsa.length,<- rsb.length];exact hl),fun l hl'=>?_⟩))
    exact NL.post w r (rsa.append rsb) hl'
 unfold bQ at w
 split at w
 ·cases ra
  cases rb
  exact .inl ⟨_,_,rfl,rfl,aR.yR w r (.int _)⟩
 ·cases ra with
  | @tup da pa va ha rsa=>
   cases rb with
   | @tup db pb vb hb rsb=>
    obtain⟨hl,w⟩:=WQ.eT w
    refine .inr (.inl ?_)
    cases va with
    | nil=>
     cases rsa
     exact .inr ⟨_,_,_,rfl,rfl,SqT.of ha,SqT.of hb,aR.yR w r (.tup hb rsb)⟩
    | cons z zs=>
     refine .inl ⟨_,_,_,_,rfl,rfl,SqT.of ha,SqT.of hb,by simp,gZ (by rw[<- rsa.length,<- rsb.length];exact hl),fun e=>?_,fun _ p hp=>.inl (aR.tup w r (rsa.append rsb) hp)⟩
     subst e
     cases rsb
     refine aR.yR w r (.tup ha ?_)
     rw[NF];exact rsa
 ·cases ra
  cases rb
  obtain⟨hl,w⟩:=WQ.eT w
  exact .inr (.inr (.inr ⟨_,_,rfl,rfl,gZ hl,aR.yR w r (.str _)⟩))
 ·exact gen ra rb w
noncomputable def bR:D->D->Hh->R D
 | .int i,.int j,h=>.ok (.int (i - j)) h
 | _,_,_=>.bad
theorem FU:dS K g ε bR (rI0 fun i j=>.int (i - j)):=by
 intro α H h a b x y Q r ra rb w
 cases ra with
 | int i=>
  cases rb with
  | int j=>exact⟨i,j,rfl,rfl,aR.now w r (.int _)⟩
  | _=>exact w.elim
 | _=>exact w.elim
noncomputable def D3:R2:=fun x y H Q=>∃l k xs,x=.ref l/\y=.int k/\Rd H l (.lst xs)/\-(2 ^ 63)<=k/\k<2 ^ 63/\xs.length*k.toNat<=sizeLine ∧
 ∀p,H p=none->Q (.ref p) (upd H p (.lst (Mq k.toNat xs).flatten))
theorem Cw:OpR X (binaryOp .Mult) D3:=by
 intro pins s σ H x y v u Q I rx ry h
 obtain⟨l,k,xs,rfl,rfl,hH,h1,h2,hz,q⟩:=h
 cases rx
 obtain⟨t,rfl⟩:=ry
 obtain⟨its,n,z,r,hl,e⟩:=FP I hH
 have hlen:its.toArray.size*k.toNat<=sizeLine:=by simp_all
 have hcap:¬ its.toArray.size*k.toNat > (2 ^ 63 - 1) / 8:=by
  have:(sizeLine:Nat)<=(2 ^ 63 - 1) / 8:=by decide
  lia
 have hfit:¬ (!Builtin.List.listFitsIndex k)=true:=by
  rw[fitsIndex_both h1 h2]
  simp
 have hlong:¬ OT (its.toArray.size*k.toNat)=true:=by
  rw[Bw hlen]
  simp
 have hnew:QK (fun x1 x2=>x1++x2) #[] (Mq (if its.toArray.isEmpty=true then 0 else k.toNat) its.toArray)=(Mq k.toNat its).flatten.toArray:=by
  have f0:=fun m=>by
   have:=foldl_rep its m []
   rw[M1] at this
   exact this
  rw[f0]
  cases its with
  | nil=>simp
  | cons a r'=>rfl
 refine wpAny_binaryOp_repeat_ref (by decide) ⟨_,e,rfl⟩ (fun s'=>Rb s' k t) noFill_list_mul F.fills_int_mul F.slot_int_rmul repeat_list F.slot_int_index.lookup
  (Rc F.slot_int_rmul (Rb s k t) F.entry_int_rmul (F.args_int_rmul_2 _ _) (int___rmul___int_list k t l its.toArray n)
   ⟨e,rfl,⟨_,e,rfl⟩,Rc F.slot_list_mul ⟨_,e,rfl⟩ F.entry_list_mul (F.args_list_mul_2 _ _) (AutoListH.list___mul___list_int_3 l its.toArray n k t hfit hcap hlong) ⟨e,?_⟩⟩)
 rw[hnew]
 exact⟨.ref _,_,I.AX (r.rep k.toNat) (by rw[len_rep,Nat.mul_comm];exact hz),rfl,q _ I.fresh⟩
noncomputable def mM (nl:NL):D->D->Hh->R D:=fun x y h=>match x,y with
 | .int i,.int j=>if sml i=true/\sml j=true then .ok (.int (i*j)) h else .bad
 | x,.int k=>match gm x h with
  | some ds=>if k.natAbs<=1000000/\ds.length*k.toNat<=1000000 then nl (Mq k.toNat ds).flatten h else .bad
  | none=>.bad
 | _,_=>.bad
theorem DA:OpR X (binaryOp .Mult) (rI (fun i j=>sml i=true/\sml j=true) fun i j=>.int (i*j)):=opI fun _ _ _ _ _ _ _ hc q=>mul_int q (IntMulOk.of_bits (L0 (iQ hc.1) (by decide)) (L0 (iQ hc.2) (by decide)))
noncomputable abbrev A4:R2:=fun x y H Q=>(rI (fun i j=>sml i=true/\sml j=true) fun i j=>.int (i*j)) x y H Q\/D3 x y H Q
theorem FG:OpR X (binaryOp .Mult) (fun x y H Q=>A4 x y H (g9 Q)):=OpR.frz (OpR.or DA Cw)
theorem Fm {nl:NL} [iq nl]:dS K g ε (mM nl) (fun x y H Q=>A4 x y H (g9 Q)):=by
 intro α H h a b x y Q r ra rb w
 have gen:∀{a:D} {k:Int} {x:V},aJ K g α H a x->WQ K g ε α H (match gm a h with
  | some ds=>if k.natAbs<=1000000/\ds.length*k.toNat<=1000000 then nl (Mq k.toNat ds).flatten h else .bad
  | none=>.bad) (aR K g α H Q)->A4 x (.int k) H (g9 Q):=by
  intro a k x ra w
  cases e1:gm a h with
  | none=>simp only[e1] at w;exact w.elim
  | some ds=>
   simp only[e1] at w
   obtain⟨hl,w⟩:=WQ.eT w
   obtain⟨p,vs,rfl,hv,rs⟩:=pV r ra e1
   refine .inr ⟨p,k,vs,rfl,rfl,hv,by lia,by lia,gZ (by rw[<- rs.length];exact hl.2),fun l hl'=>?_⟩
   exact NL.post w r (rs.flat k.toNat) hl'
 unfold mM at w
 split at w
 ·cases ra
  cases rb
  obtain⟨hc,w⟩:=WQ.eT w
  exact .inl ⟨_,_,rfl,rfl,hc,aR.yR w r (.int _)⟩
 ·cases rb
  exact gen ra w
 ·exact w.elim
noncomputable def qk:D->D->Hh->R D
 | .int i,.int j,h=>if 0<j/\sml j=true then .ok (.int (i / j)) h else .bad
 | _,_,_=>.bad
theorem Ax:OpR X (binaryOp .FloorDiv) (rI (fun i j=>0<j/\sml j=true) fun i j=>.int (i / j)):=opI fun i j _ _ _ _ _ hc q=>by
 have e:i.fdiv j=i / j:=Int.fdiv_eq_ediv_of_nonneg _ (by lia)
 refine floordiv_int (by lia) ?_ (.inl (PyProof.noPylong_of_log2 (Ql (Dp hc.2) (by decide))))
 simp_all
theorem Ex:dS K g ε qk (rI (fun i j=>0<j/\sml j=true) fun i j=>.int (i / j)):=by
 intro α H h a b x y Q r ra rb w
 cases ra with
 | int i=>
  cases rb with
  | int j=>
   obtain⟨hc,w⟩:=WQ.eT w
   exact⟨i,j,rfl,rfl,hc,aR.now w r (.int _)⟩
  | _=>exact w.elim
 | _=>exact w.elim
noncomputable def vR:D->D->Hh->R D
 | .int i,.int j,h=>if 0<j then .ok (.int (i % j)) h else .bad
 | _,_,_=>.bad
theorem Fp:dS K g ε vR (rI (fun _ j=>0<j) fun i j=>.int (i % j)):=by
 intro α H h a b x y Q r ra rb w
 cases ra with
 | int i=>
  cases rb with
  | int j=>
   obtain⟨hc,w⟩:=WQ.eT w
   exact⟨i,j,rfl,rfl,hc,aR.now w r (.int _)⟩
  | _=>exact w.elim
 | _=>exact w.elim
noncomputable def FK:D->D->Hh->R D
 | .int i,.int j,h=>if 0<=j/\j.natAbs<=1000/\sml i=true then .ok (.int (i ^ j.toNat)) h else .bad
 | _,_,_=>.bad
theorem CH:OpR X (binaryOp .Pow) (rI (fun i j=>0<=j/\j.natAbs<=1000/\sml i=true) fun i j=>.int (i ^ j.toNat)):=opI fun i j _ _ _ _ _ hc q=>pow_int hc.1 (by
 have:=iQ hc.2.2
 have h1:((OQ i:Nat):Int)<=1900:=by lia
 calc ((OQ i:Nat):Int)*j<=1900*j:=Nb h1 hc.1
  _<=1900*1000:=Int.mul_le_mul_of_nonneg_left (show j<=1000 by lia) (by decide)
  _<=2 ^ 27:=by decide) q
theorem Ei:dS K g ε FK (rI (fun i j=>0<=j/\j.natAbs<=1000/\sml i=true) fun i j=>.int (i ^ j.toNat)):=by
 intro α H h a b x y Q r ra rb w
 cases ra with
 | int i=>
  cases rb with
  | int j=>
   obtain⟨hc,w⟩:=WQ.eT w
   exact⟨i,j,rfl,rfl,hc,aR.now w r (.int _)⟩
  | _=>exact w.elim
 | _=>exact w.elim
noncomputable def nD:D->Hh->R D
 | .int i,h=>.ok (.int (-i)) h
 | _,_=>.bad
theorem kK:IT K g ε nD (rU fun i=>.int (-i)):=by
 intro α H h a x Q r ra w
 cases ra with
 | int i=>exact⟨i,rfl,aR.now w r (.int _)⟩
 | _=>exact w.elim
noncomputable def zx (p:Int->Int->Bool):D->D->Hh->R D
 | .int i,.int j,h=>.ok (.bl (p i j)) h
 | _,_,_=>.bad
noncomputable def ltI:Int->Int->Bool
 | .ofNat a,.ofNat b=>Rv a b
 | .ofNat _,.negSucc _=>false
 | .negSucc _,.ofNat _=>true
 | .negSucc a,.negSucc b=>Rv b a
theorem mD:ltI=fun i j=>decide (i<j):=by
 funext i j
 cases i with
 | ofNat a=>
  cases j with
  | ofNat b=>
   show Rv a b=_
   rw[M3,Nat.blt_eq,decide_eq_true_iff]
   simp
  | negSucc b=>rfl
 | negSucc a=>
  cases j with
  | ofNat b=>exact(decide_eq_true (by grind)).symm
  | negSucc b=>
   show Rv b a=_
   rw[M3,Nat.blt_eq,decide_eq_true_iff]
   lia
noncomputable def leI (i j:Int):Bool:=!ltI j i
theorem qI:leI=fun i j=>decide (i<=j):=by
 funext i j
 unfold leI
 rw[mD,M3]
 simp
noncomputable def dLt:D->D->Hh->R D:=zx ltI
noncomputable def dLe:D->D->Hh->R D:=zx leI
noncomputable def dGt:D->D->Hh->R D:=zx fun i j=>ltI j i
noncomputable def dGe:D->D->Hh->R D:=zx fun i j=>leI j i
theorem p_:dS K g ε (zx p) (rI0 fun i j=>.bl (p i j)):=by
 intro α H h a b x y Q r ra rb w
 cases ra with
 | int i=>
  cases rb with
  | int j=>exact⟨i,j,rfl,rfl,aR.now w r (.bl _)⟩
  | _=>exact w.elim
 | _=>exact w.elim
theorem Hv:dS K g ε dLt (rI0 fun i j=>.bl (decide (i<j))):=by
 unfold dLt;rw[mD];exact p_
theorem uk:dS K g ε dLe (rI0 fun i j=>.bl (decide (i<=j))):=by
 unfold dLe;rw[qI];exact p_
theorem Ja:dS K g ε dGt (rI0 fun i j=>.bl (decide (j<i))):=by
 unfold dGt;rw[mD];exact p_
theorem HS:dS K g ε dGe (rI0 fun i j=>.bl (decide (j<=i))):=by
 unfold dGe;rw[qI];exact p_
noncomputable def iO (d:D) (h:Hh):Option (List D):=match d with
 | .tup ds=>some ds
 | .frl ds=>some ds
 | .scr ds=>some ds
 | .ref n=>aH h n
 | _=>none
theorem qw (r:aU K g α H h) (rd:aJ K g α H d x) (e:iO d h=some ds):∃p vs,x=.ref p/\(SqL K H p vs\/SqT K H p vs)/\ax K g α H ds vs:=by
 cases rd with
 | tup hq rs=>cases e;exact⟨_,_,rfl,.inr (SqT.of hq),rs⟩
 | frl hq rs=>cases e;exact⟨_,_,rfl,.inl hq.sq,rs⟩
 | scr hq rs=>cases e;exact⟨_,_,rfl,.inl hq.sq,rs⟩
 | ref hp=>obtain⟨vs,hv,rs⟩:=r.lst e hp;exact⟨_,vs,rfl,.inl (SqL.of hv),rs⟩
 | _=>cases e
noncomputable def dIx:D->D->Hh->R D:=fun a b h=>match iO a h,b with
 | some ds,.int i=>match atI ds i with
  | some d=>.ok d h
  | none=>.bad
 | _,_=>.bad
theorem Dc (rs:ax K g α H ds vs) (e:atI ds i=some d):∃v,atI vs i=some v/\aJ K g α H d v:=by
 unfold atI at e ⊢
 rw[<- rs.length]
 cases e1:ixN ds.length i with
 | none=>simp_all
 | some j=>
  rw[e1] at e
  exact rs.get e
theorem IZ:dS K g ε dIx (rIx K):=by
 intro α H h a b x y Q r ra rb w
 unfold dIx at w
 cases e1:iO a h with
 | none=>simp only[e1] at w;exact w.elim
 | some ds=>
  simp only[e1] at w
  obtain⟨p,vs,rfl,hq,rs⟩:=qw r ra e1
  cases rb with
  | int i=>
   cases e2:atI ds i with
   | none=>simp only[e2] at w;exact w.elim
   | some d=>
    simp only[e2] at w
    obtain⟨v,ev,rv⟩:=Dc rs e2
    rcases hq with hq | hq
    ·exact .inl ⟨p,vs,i,v,rfl,rfl,hq,ev,aR.now w r rv⟩
    ·exact .inr (.inl ⟨p,vs,i,v,rfl,rfl,hq,ev,aR.now w r rv⟩)
  | _=>exact w.elim
noncomputable def kn:D->D->D->Hh->R Unit:=fun o i v h=>match o,i with
 | .ref n,.int k=>match aH h n with
  | some ds=>match ixN ds.length k with
   | some j=>.ok () (h.set n (.lst (ds.set j v)))
   | none=>.bad
  | none=>.bad
 | _,_=>.bad
theorem uz:IG K g ε kn Ef:=by
 intro α H h o i v x y z Q r ro ri rv w
 unfold kn at w
 cases ro with
 | @ref n p hp=>
  cases ri with
  | int k=>
   cases e1:aH h n with
   | none=>simp only[e1] at w;exact w.elim
   | some ds=>
    simp only[e1] at w
    cases e2:ixN ds.length k with
    | none=>simp only[e2] at w;exact w.elim
    | some j=>
     simp only[e2] at w
     obtain⟨vs,hv,rs⟩:=r.lst e1 hp
     refine⟨p,vs,k,j,rfl,rfl,hv,by rw[<- rs.length];exact e2,?_⟩
     have x:=Ext.write (o:=.lst (vs.set j z)) r hp
     exact w _ α x (r.write hp ⟨_,a8,(rs.set rv j).ext x⟩)
  | _=>exact w.elim
 | _=>exact w.elim
noncomputable def cutD (xs:List D) (lo hi:Option Int):List D:=(xs.drop (HT.sIx xs.length 0 lo)).take (HT.sIx xs.length xs.length hi - HT.sIx xs.length 0 lo)
theorem jH (rs:ax K g α H ds vs) (lo hi):ax K g α H (cutD ds lo hi) (ou vs lo hi):=by
 unfold cutD ou
 rw[<- rs.length]
 exact(rs.drop _).take _
noncomputable abbrev MO:=En->Hh->R (Option Int)
noncomputable def de:MO:=fun _ h=>.ok none h
noncomputable def dR (a:ME):MO:=fun env h=>(a env h).bind fun d h1=>match d with
 | .int i=>.ok (some i) h1
 | _=>.bad
noncomputable def tMO (K:gV) (g:GG) (ε:EE) (m:MO):TO:=fun σ H Q=>∃α env h,c_ K g α H env σ h/\WQ K g ε α H (m env h) fun o h'=>∀H' α',Ext K α H α' H'->aU K g α' H' h'->Q o H'
theorem PO.imp (h:PO X e t) (i:∀σ H Q,t' σ H Q->t σ H Q):PO X e t':=fun pins s σ H Q I w=>h pins s σ H Q I (i σ H Q w)
theorem jS:PO X none (tMO X.K g ε de):=PO.imp C9 fun σ H Q ⟨α,env,h,s,w⟩=>w H α Ext.refl s.heap
theorem fw {e:Expr}{me:ME} (he:PE X e (tM X.K g ε me)):PO X (some e) (tMO X.K g ε (dR me)):=PO.imp (DH he) fun σ H Q ⟨α,env,h,s,w⟩=>tM.use s w.bind fun d1 h1 v1 H1 α1 e1 s1 r1 w1=>by
 cases r1 with
 | int i=>exact⟨i,rfl,w1 H1 α1 e1 s1.heap⟩
 | _=>exact w1.elim
noncomputable def rE (nl:NL):D->Option Int->Option Int->Hh->R D:=fun d lo hi h=>match d with
 | .tup ds=>.ok (.tup (cutD ds lo hi)) h
 | .frl ds=>nl (cutD ds lo hi) h
 | .scr ds=>nl (cutD ds lo hi) h
 | .ref n=>match aH h n with
  | some ds=>nl (cutD ds lo hi) h
  | none=>.bad
 | _=>.bad
noncomputable def dn (nl:NL) (a:ME) (l u:MO):ME:=fun env h=>(a env h).bind fun x h1=>(l env h1).bind fun lo h2=>(u env h2).bind fun hi h3=>rE nl x lo hi h3
theorem tMO.use (s:c_ K g α H env σ h) (w:WQ K g ε α H (m env h) k)
  (q:∀d h' H' α',Ext K α H α' H'->c_ K g α' H' env σ h'->k d h'->Q d H'):tMO K g ε m σ H Q:=
 ⟨α,env,h,s,w.mono fun d h' _ kk H' α' e r=>q d h' H' α' e (s.ext e r) kk⟩
theorem fI {nl:NL} [iq nl]{e:Expr}{me:ME}{lo hi:Option Expr}{ml mh:MO}{p2 pos:Pos} (he:PE X e (tM X.K g ε me)) (hl:PO X lo (tMO X.K g ε ml)) (hu:PO X hi (tMO X.K g ε mh)):PE X (.Subscript e (.Slice lo hi none p2) pos) (tM X.K g ε (dn nl me ml mh)):=
 PE.imp (PE.frz (Ba (SlR.or B6 (SlR.or Fg DF)) he hl hu)) fun σ H Q ⟨α,env,h,s,w⟩=>tM.use s w.bind fun d1 h1 v1 H1 α1 e1 s1 r1 w1=>tMO.use s1 (w1.ext e1).bind fun o2 h2 H2 α2 e2 s2 w2=>tMO.use s2 (w2.ext e2).bind fun o3 h3 H3 α3 e3 s3 w3=>by
  have tr:=e1.trans (e2.trans e3)
  have r3:=r1.ext (e2.trans e3)
  have w4:=(w3.ext e3).mono fun _ _ _ p=>aR.ext tr p
  unfold rE at w4
  cases r3 with
  | @frl ds p vs hq rs=>exact .inl ⟨_,_,rfl,hq.sq,fun l hl=>NL.post w4 s3.heap (jH rs _ _) hl⟩
  | @scr ds p vs hq rs=>exact .inl ⟨_,_,rfl,hq.sq,fun l hl=>NL.post w4 s3.heap (jH rs _ _) hl⟩
  | @ref n p hp=>
   cases e1:aH h3 n with
   | none=>simp only[e1] at w4;exact w4.elim
   | some ds=>
    simp only[e1] at w4
    obtain⟨vs,hv,rs⟩:=s3.heap.lst e1 hp
    exact .inl ⟨_,_,rfl,SqL.of hv,fun l hl=>NL.post w4 s3.heap (jH rs _ _) hl⟩
  | @tup ds p vs hq rs=>
   refine .inr ?_
   by_cases hw:HT.sIx vs.length 0 o2=0/\HT.sIx vs.length vs.length o3=vs.length
   ·refine .inr ⟨_,_,rfl,SqT.of hq,hw.1,hw.2,?_⟩
    refine aR.yR w4 s3.heap (.tup hq ?_)
    have:ou vs o2 o3=vs:=by unfold ou;simp_all
    have q:=jH rs o2 o3
    simp_all
   ·exact .inl ⟨_,_,rfl,SqT.of hq,hw,fun l hl=>.inl (aR.tup w4 s3.heap (jH rs _ _) hl)⟩
  | _=>exact w4.elim
end
noncomputable def fq:D->Bool
 | .non=>true | .bl _=>true | .int _=>true | .str _=>true
 | _=>false
noncomputable def eqF:D->D->Bool
 | .non,.non=>true
 | .bl a,.bl b=>a == b
 | .bl a,.int b=>(if a then 1 else 0) == b
 | .int a,.bl b=>a == (if b then 1 else 0)
 | .int a,.int b=>a == b
 | .str a,.str b=>a == b
 | _,_=>false
noncomputable def eqL (f:D->D->Option Bool):List D->List D->Option Bool
 | x::xs,y::ys=>match f x y,eqL f xs ys with
  | some b,some c=>some (b&&c)
  | _,_=>none
 | [],[]=>some true
 | _,_=>some false
inductive Vw where
 | fl | tp (ds:List D) | ls (ds:List D) | no
noncomputable def vw (d:D) (h:Hh):Vw:=match d with
 | .non=>.fl | .bl _=>.fl | .int _=>.fl | .str _=>.fl
 | .tup ds=>.tp ds
 | .frl ds=>.ls ds
 | .scr ds=>.ls ds
 | .ref n=>match aH h n with
  | some ds=>.ls ds
  | none=>.no
 | _=>.no
noncomputable def eqD:Nat->Hh->D->D->Option Bool
 | 0,_,_,_=>none
 | k+1,h,a,b=>match vw a h,vw b h with
  | .fl,.fl=>some (eqF a b)
  | .tp xs,.tp ys=>eqL (eqD k h) xs ys
  | .ls xs,.ls ys=>if xs.length=ys.length then eqL (eqD k h) xs ys else some false
  | .fl,.tp _=>some false
  | .fl,.ls _=>some false
  | .tp _,.fl=>some false
  | .tp _,.ls _=>some false
  | .ls _,.fl=>some false
  | .ls _,.tp _=>some false
  | _,_=>none
section
variable {K:gV}{g:GG}{α:List Addr}{H:Hp}{h:Hh}
theorem mz {f:D->D->Option Bool} (hf:∀a b x c,aJ K g α H a x->aJ K g α H b x->f a b=some c->c=true):∀{xs ys:List D}{vs:List V}{c:Bool},ax K g α H xs vs->ax K g α H ys vs->eqL f xs ys=some c->c=true
 | _,_,_,_,.nil,.nil,e=>by simp[eqL] at e;exact e
 | _,_,_,c,.cons r t,.cons r' t',e=>by
  unfold eqL at e
  split at e
  ·rename_i b c' h1 h2
   have e1:=hf _ _ _ _ r r' h1
   have e2:=mz hf t t' h2
   simp_all
  grind
theorem mF {d:D}{x:V} (rd:aJ K g α H d x) (e:vw d h=.fl):fq d=true:=by
 cases rd with
 | ref hp=>unfold vw at e;simp only at e;split at e<;>cases e
 | _=>first | rfl | cases e
theorem kX (rd:aJ K g α H d x) (e:vw d h=.tp ds):∃p vs,x=.ref p/\SqT K H p vs/\ax K g α H ds vs:=by
 cases rd with
 | tup hp rs=>cases e;exact⟨_,_,rfl,SqT.of hp,rs⟩
 | ref hp=>unfold vw at e;grind
 | _=>cases e
theorem kS (r:aU K g α H h) (rd:aJ K g α H d x) (e:vw d h=.ls ds):∃p vs,x=.ref p/\SqL K H p vs/\ax K g α H ds vs:=by
 cases rd with
 | frl hp rs=>cases e;exact⟨_,_,rfl,hp.sq,rs⟩
 | scr hp rs=>cases e;exact⟨_,_,rfl,hp.sq,rs⟩
 | @ref n p hp=>
  unfold vw at e
  simp only at e
  cases el:aH h n with
  | none=>simp_all
  | some ds'=>
   rw[el] at e;cases e
   obtain⟨vs,hv,rs⟩:=r.lst el hp
   exact⟨_,_,rfl,SqL.of hv,rs⟩
 | _=>cases e
theorem wg {f:D->D->Option Bool}:∀{xs ys:List D}{c:Bool},eqL f xs ys=some c →
  (∀(j:Nat) (x y:D),xs[j]?=some x->ys[j]?=some y->∃b,f x y=some b)/\c=((LK (min xs.length ys.length)).all (fun j=>((f (xs.getD j .non) (ys.getD j .non)).getD false))&&xs.length == ys.length)
 | [],[],c,e=>by
  simp[eqL] at e
  simp[<- e]
 | [],_::_,c,e=>by
  simp[eqL] at e
  exact⟨fun j x y h=>by simp at h,by simp[<- e]⟩
 | _::_,[],c,e=>by
  simp[eqL] at e
  exact⟨fun j x y _ h=>by simp at h,by simp[<- e]⟩
 | x::xs,y::ys,c,e=>by
  unfold eqL at e
  split at e
  ·rename_i b c' h1 h2
   obtain⟨q1,q2⟩:=wg h2
   refine⟨fun j x' y' hx hy=>?_,?_⟩
   ·cases j with
    | zero=>simp at hx hy;subst hx hy;exact⟨b,h1⟩
    | succ j=>exact q1 j x' y' (by simpa using hx) (by simpa using hy)
   ·have e':=(Nq e).symm
    rw[e',q2]
    have hm:min (x::xs).length (y::ys).length=min xs.length ys.length+1:=by simp[Nat.succ_min_succ]
    rw[hm,MD,NP,List.all_map]
    have h0:(f ((x::xs).getD 0 .non) ((y::ys).getD 0 .non)).getD false=b:=by
     show(f x y).getD false=b
     rw[h1];rfl
    rw[h0]
    have hlen:((x::xs).length == (y::ys).length)=(xs.length == ys.length):=by simp
    rw[hlen,Bool.and_assoc]
    rfl
  ·cases e
end
section
variable {X:Cx}{g:GG}{pins:List (Addr × Obj)}{σ:St}{H:Hp}{s:LP}{α:List Addr}{h:Hh}
open PySem.SeqAt
theorem Df {K:gV} (ra:aJ K g α H a x) (rb:aJ K g α H b y) (ru:RelV x u) (rv:RelV y v) (fa:fq a=true) (fb:fq b=true) :
  EqAt A s u v (eqF a b)/\RcAt A s u v (eqF a b)/\QA A s u v (!eqF a b):=by
 cases ra with
 | non=>
  cases ru
  cases rb with
  | non=>cases rv;exact⟨.same _,.none_none,.none_none⟩
  | bl z=>cases rv;exact⟨.none_bool z,.none_bool z,.none_bool z⟩
  | int z=>obtain⟨t,rfl⟩:=rv;exact⟨.none_int z t,.none_int z t,.none_int z t⟩
  | str z=>obtain⟨t,rfl⟩:=rv;exact⟨.none_str z t,.none_str z t,.none_str z t⟩
  | _=>cases fb
 | bl q=>
  cases ru
  cases rb with
  | non=>cases rv;exact⟨.bool_none q,.bool_none q,.bool_none q⟩
  | bl z=>cases rv;exact⟨.bool_bool q z,.bool_bool q z,.bool_bool q z⟩
  | int z=>obtain⟨t,rfl⟩:=rv;exact⟨.bool_int q z t,.bool_int q z t,.bool_int q z t⟩
  | str z=>obtain⟨t,rfl⟩:=rv;exact⟨.bool_str q z t,.bool_str q z t,.bool_str q z t⟩
  | _=>cases fb
 | int q=>
  obtain⟨t',rfl⟩:=ru
  cases rb with
  | non=>cases rv;exact⟨.int_none q t',.int_none q t',.int_none q t'⟩
  | bl z=>cases rv;exact⟨.int_bool q t' z,.int_bool q t' z,.int_bool q t' z⟩
  | int z=>obtain⟨t,rfl⟩:=rv;exact⟨.int_int q t' z t,.int_int q t' z t,.int_int q t' z t⟩
  | str z=>obtain⟨t,rfl⟩:=rv;exact⟨.int_str q t' z t,.int_str q t' z t,.int_str q t' z t⟩
  | _=>cases fb
 | str q=>
  obtain⟨t',rfl⟩:=ru
  cases rb with
  | non=>cases rv;exact⟨.str_none q t',.str_none q t',.str_none q t'⟩
  | bl z=>cases rv;exact⟨.str_bool q t' z,.str_bool q t' z,.str_bool q t' z⟩
  | int z=>obtain⟨t,rfl⟩:=rv;exact⟨.str_int q t' z t,.str_int q t' z t,.str_int q t' z t⟩
  | str z=>obtain⟨t,rfl⟩:=rv;exact⟨.str_str q t' z t,.str_str q t' z t,.str_str q t' z t⟩
  | _=>cases fb
 | _=>cases fa
theorem sZ {K:gV} (ht:s.heap.IsTuple p its) (hu:A.units<cLine) (rb:aJ K g α H b y) (rv:RelV y v) (fb:fq b=true) :
  (EqAt A s (.ref p) v false/\RcAt A s (.ref p) v false/\QA A s (.ref p) v true)/\(EqAt A s v (.ref p) false/\RcAt A s v (.ref p) false/\QA A s v (.ref p) true):=by
 cases rb with
 | non=>cases rv;exact⟨⟨.tuple_none ht hu,.tuple_none ht hu,.tuple_none ht hu⟩,.none_tuple ht hu,.none_tuple ht hu,.none_tuple ht hu⟩
 | bl z=>cases rv;exact⟨⟨.tuple_bool z ht hu,.tuple_bool z ht hu,.tuple_bool z ht hu⟩,.bool_tuple z ht hu,.bool_tuple z ht hu,.bool_tuple z ht hu⟩
 | int z=>obtain⟨t,rfl⟩:=rv;exact⟨⟨.tuple_int z t ht hu,.tuple_int z t ht hu,.tuple_int z t ht hu⟩,.int_tuple z t ht hu,.int_tuple z t ht hu,.int_tuple z t ht hu⟩
 | str z=>obtain⟨t,rfl⟩:=rv;exact⟨⟨.tuple_str z t ht hu,.tuple_str z t ht hu,.tuple_str z t ht hu⟩,.str_tuple z t ht hu,.str_tuple z t ht hu,.str_tuple z t ht hu⟩
 | _=>cases fb
theorem tO {K:gV} (ht:s.heap.IsList p its) (hu:A.units<cLine) (rb:aJ K g α H b y) (rv:RelV y v) (fb:fq b=true) :
  (EqAt A s (.ref p) v false/\RcAt A s (.ref p) v false/\QA A s (.ref p) v true)/\(EqAt A s v (.ref p) false/\RcAt A s v (.ref p) false/\QA A s v (.ref p) true):=by
 cases rb with
 | non=>cases rv;exact⟨⟨.list_none ht hu,.list_none ht hu,.list_none ht hu⟩,.none_list ht hu,.none_list ht hu,.none_list ht hu⟩
 | bl z=>cases rv;exact⟨⟨.list_bool z ht hu,.list_bool z ht hu,.list_bool z ht hu⟩,.bool_list z ht hu,.bool_list z ht hu,.bool_list z ht hu⟩
 | int z=>obtain⟨t,rfl⟩:=rv;exact⟨⟨.list_int z t ht hu,.list_int z t ht hu,.list_int z t ht hu⟩,.int_list z t ht hu,.int_list z t ht hu,.int_list z t ht hu⟩
 | str z=>obtain⟨t,rfl⟩:=rv;exact⟨⟨.list_str z t ht hu,.list_str z t ht hu,.list_str z t ht hu⟩,.str_list z t ht hu,.str_list z t ht hu,.str_list z t ht hu⟩
 | _=>cases fb
theorem rT {A:MY}{k:Nat}{ds es:List D}{vs us:List V}{its jts:List LM}{c:Bool} (r:aU X.K g α H h)
  (ih:∀(a b:D) (x y:V) (u v:LM) (c:Bool),aJ X.K g α H a x->aJ X.K g α H b y->RelV x u->RelV y v->eqD k h a b=some c->EqAt A.in1 s u v c)
  (rs:ax X.K g α H ds vs) (rt:ax X.K g α H es us) (rv:Vals vs its) (ru:Vals us jts) (e:eqL (eqD k h) ds es=some c) :
  (∀j (h1:j<its.toArray.size) (h2:j<jts.toArray.size),EqAt A.in1 s its.toArray[j] jts.toArray[j] ((fun(j:Nat)=>(eqD k h (ds.getD j .non) (es.getD j .non)).getD false) j)) ∧
  c=((LK (min its.toArray.size jts.toArray.size)).all (fun(j:Nat)=>(eqD k h (ds.getD j .non) (es.getD j .non)).getD false)&&its.toArray.size == jts.toArray.size):=by
 obtain⟨q1,q2⟩:=wg e
 have l1:its.toArray.size=ds.length:=by rw[Mb,<- rv.length,rs.length]
 have l2:jts.toArray.size=es.length:=by rw[Mb,<- ru.length,rt.length]
 refine⟨fun j h1 h2=>?_,by rw[l1,l2];exact q2⟩
 have hd:ds[j]?=some (ds.getD j .non):=by rw[MR,LU (by lia)];rfl
 have he:es[j]?=some (es.getD j .non):=by rw[MR,LU (by lia)];rfl
 obtain⟨b,hb⟩:=q1 j _ _ hd he
 obtain⟨x,hx,rx⟩:=rs.get hd
 obtain⟨y,hy,ry⟩:=rt.get he
 obtain⟨u,hu,rxu⟩:=rv.get hx
 obtain⟨v,hv,ryv⟩:=ru.get hy
 have eu:its.toArray[j]=u:=by
  have:=LU (by simpa using h1)
  rw[hu] at this
  simpa using(Nq this).symm
 have ev:jts.toArray[j]=v:=by
  have:=LU (by simpa using h2)
  rw[hv] at this
  simpa using(Nq this).symm
 rw[eu,ev]
 show EqAt A.in1 s u v ((eqD k h (ds.getD j .non) (es.getD j .non)).getD false)
 rw[hb]
 exact ih _ _ _ _ _ _ _ rx ry rxu ryv hb
theorem wG (I:Inv X pins σ H s) (a:SqT X.K H p vs) (b:SqL X.K H p us):False:=by
 obtain⟨its,r1,⟨o,e,c,_⟩,_⟩:=I.tuple a
 obtain⟨jts,r2,⟨o',n',e',c',_⟩,_⟩:=I.list b
 simp_all
theorem nG (I:Inv X pins σ H s) (r:aU X.K g α H h):∀(k:Nat) (a b:D) (x:V) (c:Bool),aJ X.K g α H a x->aJ X.K g α H b x->eqD k h a b=some c->c=true
 | 0,_,_,_,_,_,_,e=>by cases e
 | k+1,a,b,x,c,ra,rb,e=>by
  unfold eqD at e
  cases ea:vw a h with
  | no=>simp_all
  | fl=>
   have fa:=mF ra ea
   cases eb:vw b h with
   | no=>simp_all
   | fl=>
    simp only[ea,eb] at e
    cases e
    cases ra with
    | non=>cases rb with
     | non=>rfl
    | bl z=>cases rb with
     | bl _=>simp[eqF]
    | int z=>cases rb with
     | int _=>simp[eqF]
    | str z=>cases rb with
     | str _=>simp[eqF]
    | _=>cases fa
   | tp ds=>obtain⟨p,vs,rfl,_⟩:=kX rb eb;cases ra<;>cases fa
   | ls ds=>obtain⟨p,vs,rfl,_⟩:=kS r rb eb;cases ra<;>cases fa
  | tp da=>
   obtain⟨p,va,rfl,hp,rs⟩:=kX ra ea
   cases eb:vw b h with
   | no=>simp_all
   | fl=>have fb:=mF rb eb;cases rb<;>cases fb
   | tp db=>
    simp only[ea,eb] at e
    obtain⟨q,vb,hpq,hq,rt⟩:=kX rb eb
    cases hpq
    have:=I.gE hp hq
    subst this
    exact mz (fun a b x c=>nG I r k a b x c) rs rt e
   | ls db=>
    obtain⟨q,vb,hpq,hq,rt⟩:=kS r rb eb
    cases hpq
    exact(wG I hp hq).elim
  | ls da=>
   obtain⟨p,va,rfl,hp,rs⟩:=kS r ra ea
   cases eb:vw b h with
   | no=>simp_all
   | fl=>have fb:=mF rb eb;cases rb<;>cases fb
   | tp db=>
    obtain⟨q,vb,hpq,hq,rt⟩:=kX rb eb
    cases hpq
    exact(wG I hq hp).elim
   | ls db=>
    simp only[ea,eb] at e
    obtain⟨q,vb,hpq,hq,rt⟩:=kS r rb eb
    cases hpq
    have:=I.iy hp hq
    subst this
    rw[if_pos (by rw[rs.length,rt.length])] at e
    exact mz (fun a b x c=>nG I r k a b x c) rs rt e
theorem vS (I:Inv X pins σ H s) (r:aU X.K g α H h):∀(k:Nat) (A:MY) (a b:D) (x y:V) (u v:LM) (c:Bool),A.units+k<cLine->aJ X.K g α H a x->aJ X.K g α H b y->RelV x u->RelV y v->eqD k h a b=some c →
  EqAt A s u v c/\RcAt A s u v c/\QA A s u v (!c)
 | 0,_,_,_,_,_,_,_,_,_,_,_,_,_,e=>by cases e
 | k+1,A,a,b,x,y,u,v,c,hu,ra,rb,ru,rv,e=>by
  have hu0:A.units<cLine:=by lia
  have ih:∀(a b:D) (x y:V) (u v:LM) (c:Bool),aJ X.K g α H a x->aJ X.K g α H b y->RelV x u->RelV y v->eqD k h a b=some c->EqAt A.in1 s u v c:=
   fun a b x y u v c h1 h2 h3 h4 h5=>(vS I r k A.in1 a b x y u v c (by grind) h1 h2 h3 h4 h5).1
  have whole:=fun x ra rb=>nG I r (k+1) a b x c ra rb e
  unfold eqD at e
  cases ea:vw a h with
  | no=>simp_all
  | fl=>
   have fa:=mF ra ea
   cases eb:vw b h with
   | no=>simp_all
   | fl=>simp only[ea,eb] at e;cases e;exact Df ra rb ru rv fa (mF rb eb)
   | tp db=>
    simp only[ea,eb] at e;cases e
    obtain⟨q,vb,rfl,hq,rt⟩:=kX rb eb
    cases rv
    obtain⟨its,r1,ht,_⟩:=I.tuple hq
    exact(sZ ht hu0 ra ru fa).2
   | ls db=>
    simp only[ea,eb] at e;cases e
    obtain⟨q,vb,rfl,hq,rt⟩:=kS r rb eb
    cases rv
    obtain⟨its,r1,ht,_⟩:=I.list hq
    exact(tO ht.isList hu0 ra ru fa).2
  | tp da=>
   obtain⟨p,va,rfl,hp,rs⟩:=kX ra ea
   cases ru
   obtain⟨its,r1,ht,_⟩:=I.tuple hp
   cases eb:vw b h with
   | no=>simp_all
   | fl=>simp only[ea,eb] at e;cases e;exact(sZ ht hu0 rb rv (mF rb eb)).1
   | tp db=>
    simp only[ea,eb] at e
    obtain⟨q,vb,rfl,hq,rt⟩:=kX rb eb
    cases rv
    obtain⟨jts,r2,ht2,_⟩:=I.tuple hq
    obtain⟨h1,h2⟩:=rT r ih rs rt r1 r2 e
    have rc:RcAt A s (.ref p) (.ref q) c:=by rw[h2];exact RcAt.tuples ht ht2 hu0 h1
    refine⟨?_,rc,by rw[h2];exact QA.tuples ht ht2 hu0 h1⟩
    by_cases hpq:p=q
    ·subst hpq
     rw[whole _ ra rb]
     exact .same _
    ·exact .of_refs hpq rc
   | ls db=>
    simp only[ea,eb] at e;cases e
    obtain⟨q,vb,rfl,hq,rt⟩:=kS r rb eb
    cases rv
    obtain⟨jts,r2,ht2,_⟩:=I.list hq
    exact⟨.tuple_list ht ht2.isList hu0,.tuple_list ht ht2.isList hu0,.tuple_list ht ht2.isList hu0⟩
  | ls da=>
   obtain⟨p,va,rfl,hp,rs⟩:=kS r ra ea
   cases ru
   obtain⟨its,r1,ht',_⟩:=I.list hp
   have ht:=ht'.isList
   cases eb:vw b h with
   | no=>simp_all
   | fl=>simp only[ea,eb] at e;cases e;exact(tO ht hu0 rb rv (mF rb eb)).1
   | tp db=>
    simp only[ea,eb] at e;cases e
    obtain⟨q,vb,rfl,hq,rt⟩:=kX rb eb
    cases rv
    obtain⟨jts,r2,ht2,_⟩:=I.tuple hq
    exact⟨.list_tuple ht ht2 hu0,.list_tuple ht ht2 hu0,.list_tuple ht ht2 hu0⟩
   | ls db=>
    simp only[ea,eb] at e
    obtain⟨q,vb,rfl,hq,rt⟩:=kS r rb eb
    cases rv
    obtain⟨jts,r2,ht2',_⟩:=I.list hq
    have ht2:=ht2'.isList
    have l1:its.toArray.size=da.length:=by rw[Mb,<- r1.length,rs.length]
    have l2:jts.toArray.size=db.length:=by rw[Mb,<- r2.length,rt.length]
    have fin:RcAt A s (.ref p) (.ref q) c/\QA A s (.ref p) (.ref q) (!c):=by
     by_cases hl:da.length=db.length
     ·rw[if_pos hl] at e
      obtain⟨h1,h2⟩:=rT r ih rs rt r1 r2 e
      have hsz:its.toArray.size=jts.toArray.size:=by lia
      have h2':c=(LK its.toArray.size).all (fun(j:Nat)=>(eqD k h (da.getD j .non) (db.getD j .non)).getD false):=by
       simp_all
      exact⟨by rw[h2'];exact RcAt.lists ht ht2 hsz hu0 h1,by rw[h2'];exact QA.lists ht ht2 hsz hu0 h1⟩
     ·rw[if_neg hl] at e
      have e2:c=false:=(Nq e).symm
      have hsz:(its.toArray.size != jts.toArray.size)=true:=by
       simp_all
      rw[e2]
      exact⟨RcAt.lists_lengths ht ht2 hsz hu0,QA.lists_lengths ht ht2 hsz hu0⟩
    refine⟨?_,fin⟩
    by_cases hpq:p=q
    ·subst hpq
     rw[whole _ ra rb]
     exact .same _
    ·exact .of_refs hpq fin.1
noncomputable abbrev eqN:Nat:=12
noncomputable def dEq:D->D->Hh->R D:=fun a b h=>match eqD eqN h a b with
 | some c=>.ok (.bl c) h
 | none=>.bad
noncomputable def dNe:D->D->Hh->R D:=fun a b h=>match eqD eqN h a b with
 | some c=>.ok (.bl (!c)) h
 | none=>.bad
noncomputable def BG (K:gV) (g:GG) (neg:Bool):R2:=fun x y H Q=>∃α h a b c,aU K g α H h/\aJ K g α H a x/\aJ K g α H b y/\eqD eqN h a b=some c/\Q (.bl (if neg then !c else c)) H
theorem iN (hu:X.A.units+64<cLine):OpR X (compareOp .Eq) (BG X.K g false):=by
 intro pins s σ H x y v u Q I rx ry ⟨α,h,a,b,c,r,ra,rb,e,q⟩
 exact(vS I r eqN X.A a b x y v u c (by grind) ra rb rx ry e).2.1 _ _ _ _ ⟨.bl c,H,I,rfl,q⟩
theorem eh (hu:X.A.units+64<cLine):OpR X (compareOp .NotEq) (BG X.K g true):=by
 intro pins s σ H x y v u Q I rx ry ⟨α,h,a,b,c,r,ra,rb,e,q⟩
 exact(vS I r eqN X.A a b x y v u c (by grind) ra rb rx ry e).2.2 _ _ _ _ ⟨.bl (!c),H,I,rfl,q⟩
theorem k7 {K:gV}:dS K g ε dEq (BG K g false):=by
 intro α H h a b x y Q r ra rb w
 unfold dEq at w
 cases e:eqD eqN h a b with
 | none=>simp only[e] at w;exact w.elim
 | some c=>simp only[e] at w;exact⟨α,h,a,b,c,r,ra,rb,e,aR.now w r (.bl _)⟩
theorem fZ {K:gV}:dS K g ε dNe (BG K g true):=by
 intro α H h a b x y Q r ra rb w
 unfold dNe at w
 cases e:eqD eqN h a b with
 | none=>simp only[e] at w;exact w.elim
 | some c=>simp only[e] at w;exact⟨α,h,a,b,c,r,ra,rb,e,aR.now w r (.bl _)⟩
end
section
variable {X:Cx}{K:gV}{g:GG}{ε:EE}
noncomputable def dJ:List D->Hh->R D:=fun ds h=>match ds with
 | [.tup ds]=>.ok (.int ds.length) h
 | [.frl ds]=>.ok (.int ds.length) h
 | [.scr ds]=>.ok (.int ds.length) h
 | [.str x]=>if x.length<=1000000 then .ok (.int x.length) h else .bad
 | [.ref n]=>match h[n]? with
  | some (.lst ds)=>.ok (.int ds.length) h
  | some (.set k)=>.ok (.int k.length) h
  | _=>.bad
 | _=>.bad
noncomputable abbrev Eb (K:gV):List V->Hp->VK->Prop:=fun xs H Q=>(∃p ys,xs=[.ref p]/\(SqL K H p ys\/SqT K H p ys)/\Q (.int ys.length) H)\/(∃p S n,xs=[.ref p]/\H p=some (.set S n)/\Q (.int n) H)\/∃z,xs=[.str z]/\z.length<=sizeLine/\Q (.int z.length) H
theorem dm:bJ X (.builtin "len") (Eb X.K):=bJ.or rj (bJ.or nM qR)
theorem kz {f:List D->Hh->R D} (hf:∀d e r h,f (d::e::r) h=.bad) (hf0:∀h,f [] h=.bad) (rs:ax K g α H ds vs) (w:WQ K g ε α H (f ds h) (aR K g α H Q)):∃d v,ds=[d]/\vs=[v]/\aJ K g α H d v:=by
 cases rs with
 | nil=>rw[hf0] at w;exact w.elim
 | cons r t=>
  cases t with
  | nil=>simp_all
  | cons _ _=>rw[hf] at w;exact w.elim
theorem dk:kF K g ε dJ (Eb K):=by
 intro α H h a x Q r ra w
 obtain⟨d,v,rfl,rfl,rd⟩:=kz (fun d _ _ _=>by cases d<;>rfl) (fun _=>rfl) ra w
 unfold dJ at w
 cases rd with
 | tup hp rs=>exact .inl ⟨_,_,rfl,.inr (SqT.of hp),aR.now w r (by rw[<- rs.length];exact .int _)⟩
 | frl hp rs=>exact .inl ⟨_,_,rfl,.inl hp.sq,aR.now w r (by rw[<- rs.length];exact .int _)⟩
 | scr hp rs=>exact .inl ⟨_,_,rfl,.inl hp.sq,aR.now w r (by rw[<- rs.length];exact .int _)⟩
 | str z=>
  obtain⟨hl,w⟩:=WQ.eT w
  exact .inr (.inr ⟨z,rfl,gZ hl,aR.now w r (.int _)⟩)
 | @ref n p hp=>
  simp only at w
  cases e:h[n]? with
  | none=>rw[e] at w;exact w.elim
  | some o=>
   rw[e] at w
   have q:=r.here n p o hp e
   cases o with
   | lst ds=>obtain⟨vs,hv,rs⟩:=q;exact .inl ⟨p,vs,rfl,.inl (SqL.of hv),aR.now w r (by rw[<- rs.length];exact .int _)⟩
   | set k=>exact .inr (.inl ⟨p,_,_,rfl,q,aR.now w r (.int _)⟩)
   | dic k=>exact w.elim
   | dit k=>exact w.elim
 | _=>exact w.elim
noncomputable def dE:List D->Hh->R D:=fun ds h=>match ds with
 | [.tup ds]=>.ok (.tup ds) h
 | [.frl ds]=>.ok (.tup ds) h
 | [.ref n]=>match aH h n with
  | some ds=>.ok (.tup ds) h
  | none=>.bad
 | _=>.bad
theorem d5:kF K g ε dE (fun xs H Q=>∃p ys,xs=[.ref p]/\((SqL K H p ys/\∀l,H l=none->Q (.ref l) (upd H l (.tup ys)))\/(SqT K H p ys/\Q (.ref p) H))):=by
 intro α H h a x Q r ra w
 obtain⟨d,v,rfl,rfl,rd⟩:=kz (fun d _ _ _=>by cases d<;>rfl) (fun _=>rfl) ra w
 unfold dE at w
 cases rd with
 | tup hp rs=>exact⟨_,_,rfl,.inr ⟨SqT.of hp,aR.now w r (.tup hp rs)⟩⟩
 | frl hp rs=>exact⟨_,_,rfl,.inl ⟨hp.sq,fun l hl=>aR.tup w r rs hl⟩⟩
 | @ref n p hp=>
  simp only at w
  cases e:aH h n with
  | none=>rw[e] at w;exact w.elim
  | some ds=>
   rw[e] at w
   obtain⟨vs,hv,rs⟩:=r.lst e hp
   exact⟨p,vs,rfl,.inl ⟨SqL.of hv,fun l hl=>aR.tup w r rs hl⟩⟩
 | _=>exact w.elim
noncomputable def intsOf:List D->Option (List Int)
 | []=>some []
 | .int i::ds=>(intsOf ds).map (i::·)
 | _::_=>none
theorem eQ:∀{ds:List D}{ns:List Int},intsOf ds=some ns->ds=ns.map D.int
 | [],ns,e=>by cases e;rfl
 | .int i::ds,ns,e=>by
  unfold intsOf at e
  cases e1:intsOf ds with
  | none=>simp_all
  | some ms=>rw[e1] at e;cases e;rw[eQ e1];rfl
 | .non::_,_,e=>by cases e
 | .bl _::_,_,e=>by cases e
 | .str _::_,_,e=>by cases e
 | .tup _::_,_,e=>by cases e
 | .frl _::_,_,e=>by cases e
 | .ref _::_,_,e=>by cases e
 | .fn _::_,_,e=>by cases e
 | .edic::_,_,e=>by cases e
 | .exc _ _::_,_,e=>by cases e
 | .clo _ _::_,_,e=>by cases e
 | .scr _::_,_,e=>by cases e
theorem eI:∀(ns:List Int),intsOf (ns.map D.int)=some ns
 | []=>rfl
 | n::r=>by rw[LW,intsOf,eI r];rfl
noncomputable def zK:List D->Hh->R D:=fun ds h=>match ds with
 | [.tup ds]=>match intsOf ds with
  | some ns=>if ns.length<=4000 then .ok (.ref h.length) (h++[.set (unl ns)]) else .bad
  | none=>.bad
 | _=>.bad
theorem F8:kF K g ε zK (fun vs H Q=>∃p ns,vs=[.ref p]/\SqT K H p (ns.map V.int)/\ns.length+1<scanBound/\∀l,H l=none->Q (.ref l) (upd H l (.set (fun k=>(unl ns).any (· == k)) (unl ns).length))):=by
 intro α H h a x Q r ra w
 obtain⟨d,v,rfl,rfl,rd⟩:=kz (fun d _ _ _=>by cases d<;>rfl) (fun _=>rfl) ra w
 unfold zK at w
 cases rd with
 | tup hp rs=>
  simp only at w
  cases e:intsOf _ with
  | none=>rw[e] at w;exact w.elim
  | some ns=>
   rw[e] at w
   obtain⟨hl,w⟩:=WQ.eT w
   have e2:=eQ e
   subst e2
   have e3:=rs.xw
   subst e3
   refine⟨_,ns,rfl,SqT.of hp,by show ns.length+1<4096;lia,fun l hn=>?_⟩
   refine(show aR K g α H Q _ _ from w) _ _ (α++[l]) (Ext.push hn) (r.push hn a8) (.ref ?_)
   rw[<- r.len];simp
 | _=>exact w.elim
noncomputable def AJ:List D->Hh->R D:=fun ds h=>match ds with
 | [.int i,.int j]=>.ok (.int (if j > i then j else i)) h
 | _=>.bad
noncomputable def uu:List D->Hh->R D:=fun ds h=>match ds with
 | [.int i,.int j]=>.ok (.int (if j<i then j else i)) h
 | _=>.bad
theorem uw {t:Int->Int->Int} (r:aU K g α H h) (rs:ax K g α H ds vs) (w:WQ K g ε α H (match ds with | [.int i,.int j]=>.ok (.int (t i j)) h | _=>.bad) (aR K g α H Q)):∃i j,vs=[.int i,.int j]/\Q (.int (t i j)) H:=by
 split at w
 ·cases rs with
  | cons r1 t1=>
   cases r1
   cases t1 with
   | cons r2 t2=>
    cases r2
    cases t2
    exact⟨_,_,rfl,aR.now w r (.int _)⟩
 ·exact w.elim
theorem Ci:kF K g ε AJ (fun xs H Q=>∃i j,xs=[.int i,.int j]/\Q (.int (if j > i then j else i)) H):=fun α H h a x Q r ra w=>uw r ra w
theorem CF:kF K g ε uu (fun xs H Q=>∃i j,xs=[.int i,.int j]/\Q (.int (if j<i then j else i)) H):=fun α H h a x Q r ra w=>uw r ra w
noncomputable def yZ:List D->Hh->R D:=fun ds h=>match ds with
 | [.int i]=>.ok (.int i) h
 | [.bl b]=>.ok (.int (if b then 1 else 0)) h
 | _=>.bad
theorem AL:kF K g ε yZ (fun xs H Q=>(∃i,xs=[.int i]/\Q (.int i) H)\/∃k,xs=[.bl k]/\Q (.int (if k then 1 else 0)) H):=by
 intro α H h a x Q r ra w
 obtain⟨d,v,rfl,rfl,rd⟩:=kz (fun d _ _ _=>by cases d<;>rfl) (fun _=>rfl) ra w
 cases rd with
 | int i=>exact .inl ⟨i,rfl,aR.now w r (.int _)⟩
 | bl b=>exact .inr ⟨b,rfl,aR.now w r (.int _)⟩
 | _=>exact w.elim
noncomputable def tyD (d:D) (h:Hh):Option String:=match d with
 | .non=>some "NoneType"
 | .bl _=>some "bool"
 | .int _=>some "int"
 | .str _=>some "str"
 | .tup _=>some "tuple"
 | .frl _=>some "list"
 | .edic=>some "dict"
 | .ref n=>match h[n]? with
  | some (.lst _)=>some "list"
  | some (.dic _)=>some "dict"
  | some (.dit _)=>some "dict"
  | _=>none
 | _=>none
noncomputable def wW (t n:String):Option Bool:=
 if n="int" then (if t="int" then some true else if t="bool" then some true else if t="NoneType" \/ t="str" \/ t="tuple" \/ t="list" \/ t="dict" then some false else none)
 else if n="bool" \/ n="tuple" \/ n="list" \/ n="str" then (if t=n then some true else if t="int" \/ t="bool" \/ t="NoneType" \/ t="str" \/ t="tuple" \/ t="list" \/ t="dict" then some false else none)
 else none
noncomputable def qP (n:String):D->Hh->R D:=fun d h=>match tyD d h with
 | some t=>match wW t n with
  | some b=>.ok (.bl b) h
  | none=>.bad
 | none=>.bad
theorem Hg (r:aU K g α H h) (rd:aJ K g α H d v) (e:tyD d h=some t):jk K H v (.type t):=by
 unfold tyD at e
 cases rd with
 | non=>cases e;exact .non
 | bl b=>cases e;exact .bl b
 | int i=>cases e;exact .int i
 | str i=>cases e;exact .str i
 | tup hp rs=>cases e;exact .tup hp
 | frl hp rs=>cases e;obtain⟨o,hp⟩:=hp;exact .frz hp
 | edic hp=>cases e;exact .gB hp
 | @ref n p hp=>
  simp only at e
  cases eo:h[n]? with
  | none=>simp_all
  | some o=>
   rw[eo] at e
   have q:=r.here n p o hp eo
   cases o with
   | lst ds=>cases e;obtain⟨vs,hv,_⟩:=q;exact .lst hv
   | set k=>cases e
   | dic k=>cases e;obtain⟨vs,hv,_⟩:=q;exact .dK hv
   | dit k=>cases e;obtain⟨vs,hv,_⟩:=q;exact .dT hv
 | _=>cases e
theorem Dm (K):ND K (.type "int") (.type "int")=some true/\ND K (.type "bool") (.type "int")=some true/\ND K (.type "NoneType") (.type "int")=some false/\ND K (.type "str") (.type "int")=some false
  /\ ND K (.type "tuple") (.type "int")=some false/\ND K (.type "list") (.type "int")=some false/\ND K (.type "dict") (.type "int")=some false:=⟨rfl,rfl,rfl,rfl,rfl,rfl,rfl⟩
theorem E2 (e:wW t n=some b):ND K (.type t) (.type n)=some b:=by
 unfold wW at e
 obtain⟨a1,a2,a3,a4,a5,a6,a7⟩:=Dm K
 split at e
 ·grind
 ·split at e
  ·rename_i hn
   split at e
   ·rename_i h;subst h;rcases hn with rfl | rfl | rfl | rfl<;>assumption
   ·rename_i hne
    split at e
    ·rename_i h;rcases hn with rfl | rfl | rfl | rfl<;>rcases h with rfl | rfl | rfl | rfl | rfl | rfl | rfl<;>first | assumption | simp_all
    grind
  grind
theorem mT {e:Expr}{me:ME}{n:String}{x:Str}{p1 p2 pos:Pos} (he:PE X e (tM X.K g ε me)) (hg:Gl X "isinstance") (hm:X.mg "isinstance" = none) (hg2:Gl X x) (hm2:X.mg x=none) (hb:bootBuiltins x=some (.type n)) (hn:x≠"__name__" := by decide) (hd:(x == ("__debug__" : Str))=false:=by decide)
  (hs1:starEach [e,.Name x p2] X.env=(false,eval e X.env)::starEach [.Name x p2] X.env:=by rfl) (hs2:starEach [.Name x p2] X.env=[(false,eval (.Name x p2) X.env)]:=by rfl) (hpl:(backTo pos (starEach [.Name x p2] X.env)).any (·.1)=false:=by rfl) :
  PE X (.Call (.Name "isinstance" p1) [e,.Name x p2] [] pos) (tM X.K g ε (cUn (qP n) me)):=
 PE.imp (sf tT hg hm PyProof.Rows.boot_isinstance (jU he (jU (Dk (v:=.ty n) hg2 hm2 hb rfl hn hd) qS hs2) hs1) (by decide) (by decide) hs1 hpl) fun σ H Q ⟨α,env,h,s,w⟩=>tM.use s w.bind fun d1 h1 v1 H1 α1 e1 s1 r1 w1=>by
  unfold qP at w1
  cases et:tyD d1 h1 with
  | none=>simp only[et] at w1;exact w1.elim
  | some t=>
   simp only[et] at w1
   cases es:wW t n with
   | none=>simp only[es] at w1;exact w1.elim
   | some b=>
    simp only[es] at w1
    exact⟨v1,.type t,n,b,rfl,Hg s1.heap r1 et,E2 es,aR.now (aR.ext e1 w1) s1.heap (.bl b)⟩
end
section
variable {X:Cx}{K:gV}{g:GG}{ε:EE}
noncomputable def eZ:D->Hh->R Bool:=fun d h=>match d with
 | .non=>.ok false h
 | .bl b=>.ok b h
 | .int i=>.ok (i != 0) h
 | .tup ds=>.ok (!ds.isEmpty) h
 | .frl ds=>.ok (!ds.isEmpty) h
 | .ref n=>match aH h n with
  | some ds=>.ok (!ds.isEmpty) h
  | none=>.bad
 | _=>.bad
theorem ax.isEmpty (r:ax K g α H ds vs):ds.isEmpty=vs.isEmpty:=by cases r<;>rfl
theorem eY:G9 K g ε eZ (fun x H Q=>∃k,Dv K x H k/\Q k H):=by
 intro α H h a x Q r ra w
 unfold eZ at w
 have now:∀{b:Bool},kW K g α H Q b h->Q b H:=fun p=>p H α Ext.refl r
 cases ra with
 | non=>exact⟨false,rfl,now w⟩
 | bl b=>exact⟨b,rfl,now w⟩
 | int i=>exact⟨_,rfl,now w⟩
 | tup hp rs=>exact⟨_,.inr (.inl ⟨_,SqT.of hp,rfl⟩),now (by rw[<- rs.isEmpty];exact w)⟩
 | frl hp rs=>exact⟨_,.inl ⟨_,hp.sq,rfl⟩,now (by rw[<- rs.isEmpty];exact w)⟩
 | @ref n p hp=>
  simp only at w
  cases e:aH h n with
  | none=>rw[e] at w;exact w.elim
  | some ds=>
   rw[e] at w
   obtain⟨vs,hv,rs⟩:=r.lst e hp
   exact⟨_,.inl ⟨vs,SqL.of hv,rfl⟩,now (by rw[<- rs.isEmpty];exact w)⟩
 | _=>exact w.elim
theorem Bn (r:aJ K g α H d v) (f:fq d=true):i4 v=true:=by
 cases r<;>first | rfl | cases f
theorem HN (r:aJ K g α H d v) (q:aJ K g α H e u) (f:fq d=true) (f':fq e=true):eqF d e=eqV v u:=by
 cases r<;>first | (cases f;done) | (cases q<;>rfl)
theorem D5 {α:List Addr}{H:Hp}:∀{ds:List D}{vs:List V},ax K g α H ds vs->ds.all fq=true->vs.all i4=true
 | _,_,.nil,_=>rfl
 | _,_,.cons r t,f=>by
  rw[NP,MC] at f ⊢
  exact⟨Bn r f.1,D5 t f.2⟩
theorem D8 (q:aJ K g α H e u) (f':fq e=true):∀{ds:List D}{vs:List V},ax K g α H ds vs->ds.all fq=true->(ds.any fun d=>eqF d e)=vs.any fun y=>eqV y u
 | _,_,.nil,_=>rfl
 | _,_,.cons r t,f=>by
  rw[NP,MC] at f
  rw[N1,N1,HN r q f.1 f',D8 q f' t f.2]
noncomputable def dIn (neg:Bool):D->D->Hh->R D:=fun a b h=>match iO b h with
 | some ds=>if fq a=true/\ds.all fq=true then .ok (.bl (if neg then !(ds.any fun d=>eqF d a) else ds.any fun d=>eqF d a)) h else .bad
 | none=>.bad
theorem wA:dS K g ε (dIn neg) (rIn K neg):=by
 intro α H h a b x y Q r ra rb w
 unfold dIn at w
 cases e:iO b h with
 | none=>rw[e] at w;exact w.elim
 | some ds=>
  rw[e] at w
  obtain⟨p,vs,rfl,hq,rs⟩:=qw r rb e
  obtain⟨⟨f1,f2⟩,w⟩:=WQ.eT w
  refine⟨p,vs,rfl,hq,Bn ra f1,D5 rs f2,?_⟩
  have e2:(ds.any fun d=>eqF d a)=inV x vs:=D8 ra f1 rs f2
  rw[<- e2]
  exact aR.now w r (.bl _)
noncomputable def yb:List D->Option (List D)
 | [.int j]=>if j.natAbs<=1000000 then some (bC 0 j.toNat) else none
 | [.int i,.int j]=>if (i.natAbs<=1000000/\j.natAbs<=1000000)/\(j - i).toNat<=1000000 then some (bC i (j - i).toNat) else none
 | _=>none
noncomputable def kJ (nl:NL):List D->Hh->R D:=fun ds h=>match yb ds with
 | some xs=>nl xs h
 | none=>.bad
theorem A8 (lo) (n):ax K g α H (bC lo n) ((rF lo 1 n).map V.int):=by
 have e:bC lo n=(rF lo 1 n).map D.int:=by
  unfold bC rF
  simp
 rw[e]
 exact ax.ints _
theorem Cp (r:ax K g α H ds vs) (e:yb ds=some xs) :
  (∃j,vs=[.int j]/\wK 0 j 1 j.toNat/\xs=bC 0 j.toNat)\/∃i j,vs=[.int i,.int j]/\wK i j 1 (j - i).toNat/\xs=bC i (j - i).toNat:=by
 unfold yb at e
 split at e
 ·rename_i j
  split at e
  ·rename_i hj
   cases e
   cases r with
   | cons r1 t=>
    cases r1
    cases t
    refine .inl ⟨j,rfl,?_,rfl⟩
    have:=zm (a:=0) (b:=j) (by lia) (by lia) (by lia) (by lia) (by lia)
    simp_all
  grind
 ·rename_i i j
  split at e
  ·rename_i hj
   cases e
   cases r with
   | cons r1 t=>
    cases r1
    cases t with
    | cons r2 t=>
     cases r2
     cases t
     exact .inr ⟨i,j,rfl,zm (by lia) (by lia) (by lia) (by lia) (by lia),rfl⟩
  grind
 grind
theorem Gg:bJ X (.type "range") (fun vs H Q=>(∃j,vs=[.int j]/\∀p,H p=none->Q (.ref p) (upd H p (qb p 0 j 1)))\/∃i j,vs=[.int i,.int j]/\∀p,H p=none->Q (.ref p) (upd H p (qb p i j 1))):=bJ.or za yi
section
variable {e:Expr}{es:List Expr}{mr:MA}{p1 p2 q1 q2:Pos}
theorem AW {nl:NL} [iq nl] (hc:X.calm=true) (hg:Gl X "list") (hm:X.mg "list" = none) (hg2:Gl X "range") (hm2:X.mg "range" = none) (ha:PA X (e::es) (tMA X.K g ε mr))
  (he:starEach (e::es) X.env=(false,eval e X.env)::starEach es X.env:=by rfl) (hpl:(backTo q2 (starEach es X.env)).any (·.1)=false:=by rfl)
  (he1:starEach [.Call (.Name "range" p2) (e::es) [] q2] X.env=[(false,eval (.Call (.Name "range" p2) (e::es) [] q2) X.env)]:=by rfl) (hpl1:(backTo q1 (starEach [] X.env)).any (·.1)=false:=by rfl) :
  PE X (.Call (.Name "list" p1) [.Call (.Name "range" p2) (e::es) [] q2] [] q1) (tM X.K g ε (ah (kJ nl) mr)):=
 PE.imp (PE.frz (j9 (nU hc) hg hm PyProof.Rows.boot_list (jU (j9 Gg hg2 hm2 PyProof.Rows.boot_range ha (by decide) (by decide) he hpl) qS he1) (by decide) (by decide) he1 hpl1)) fun σ H Q ⟨α,env,h,s,w⟩=>tMA.use s w.bind fun d1 h1 v1 H1 α1 e1 s1 r1 w1=>by
  unfold kJ at w1
  cases er:yb d1 with
  | none=>rw[er] at w1;exact w1.elim
  | some xs=>
   rw[er] at w1
   rcases Cp r1 er with⟨j,rfl,ok,rfl⟩ | ⟨i,j,rfl,ok,rfl⟩
   ·refine .inl ⟨j,rfl,fun p hp=>⟨p,0,j,1,j.toNat,rfl,a8,ok,fun l hl=>?_⟩⟩
    have x:=Ext.fresh (K:=X.K) (α:=α1) (o:=qb p 0 j 1) hp
    exact NL.post ((w1.post e1).post x) (s1.heap.grow hp) (A8 0 j.toNat) hl
   ·refine .inr ⟨i,j,rfl,fun p hp=>⟨p,i,j,1,(j - i).toNat,rfl,a8,ok,fun l hl=>?_⟩⟩
    have x:=Ext.fresh (K:=X.K) (α:=α1) (o:=qb p i j 1) hp
    exact NL.post ((w1.post e1).post x) (s1.heap.grow hp) (A8 i (j - i).toNat) hl
end
noncomputable def isL (d:D) (h:Hh):Bool:=match d with
 | .ref n=>(aH h n).isSome
 | .frl _=>true
 | _=>false
noncomputable def kQ (f:D->List D->Hh->R D) (o:ME) (a:MA):ME:=fun env h=>(o env h).bind fun x h1=>if isL x h1=true then (a env h1).bind fun xs h2=>f x xs h2 else .bad
theorem BS (r:aU K g α H h) (rd:aJ K g α H d x) (e:isL d h=true):tyV K "list" x H:=by
 unfold isL at e
 cases rd with
 | @ref n p hp=>
  obtain⟨ds,e⟩:=N_.mp e
  obtain⟨vs,hv,_⟩:=r.lst e hp
  exact .inl ⟨rfl,vs,SqL.of hv⟩
 | frl hq rs=>exact .inl ⟨rfl,_,hq.sq⟩
 | _=>cases e
theorem AD {o e:Expr}{es:List Expr}{mo:ME}{mr:MA}{name:Str}{apos cpos:Pos}{id:String}{r:V->List V->Hp->VK->Prop}{f:D->List D->Hh->R D} (slot:Slot "list" name id) (hty:typeOf (.builtin id)=pure (.type "method_descriptor")) (hm:MtM X id r) (im:Jk X.K g ε f r) (ho:PE X o (tM X.K g ε mo)) (ha:PA X (e::es) (tMA X.K g ε mr))
  (hbase:attributeBase o name X.env (eval o X.env)=eval o X.env:=by rfl)
  (hfew:((backTo cpos (starEach (e::es) X.env)).all (fun x=>!x.1)&&(backToKw cpos (keywordEach [] X.env)).all (fun x=>x.1.isSome)
   && decide ((e::es).length+([]:List Ru).length+(if ([]:List Ru).isEmpty then 0 else 1)<30))=true:=by rfl)
  (hline:(apos.endLine == cpos.line)=true:=by rfl) (hs:starEach (e::es) X.env=(false,eval e X.env)::starEach es X.env:=by rfl) (hplain:(backTo cpos (starEach es X.env)).any (·.1)=false:=by rfl) :
  PE X (.Call (.Attribute o name apos) (e::es) [] cpos) (tM X.K g ε (kQ f mo mr)):=
 PE.imp (HP PySem.F.plainAttrs_list slot hty hm ho ha hbase hfew hline hs hplain) fun σ H Q ⟨α,env,h,s,w⟩=>tM.use s w.bind fun d1 h1 v1 H1 α1 e1 s1 r1 w1=>by
  obtain⟨hl,w1⟩:=WQ.eT w1
  refine⟨BS s1.heap r1 hl,tMA.use s1 (w1.ext e1).bind fun d2 h2 v2 H2 α2 e2 s2 r2 w2=>?_⟩
  exact im α2 H2 h2 d1 d2 v1 v2 Q s2.heap (r1.ext e2) r2 ((w2.ext e2).mono fun _ _ _ p=>aR.ext (e1.trans e2) p)
noncomputable def eM:D->List D->Hh->R D:=fun o ds h=>match o,ds with
 | .ref n,[d]=>match aH h n with
  | some xs=>if xs.length<1000000 then .ok .non (h.set n (.lst (xs++[d]))) else .bad
  | none=>.bad
 | _,_=>.bad
theorem pe:Jk K g ε eM wx:=by
 intro α H h o a y x Q r ro ra w
 unfold eM at w
 cases ro with
 | @ref n p hp=>
  cases ra with
  | nil=>exact w.elim
  | @cons d v _ _ rd rr=>
   cases rr with
   | cons _ _=>exact w.elim
   | nil=>
    simp only at w
    cases e:aH h n with
    | none=>rw[e] at w;exact w.elim
    | some xs=>
     rw[e] at w
     obtain⟨hl,w⟩:=WQ.eT w
     obtain⟨vs,hv,rs⟩:=r.lst e hp
     refine⟨p,vs,_,rfl,rfl,hv,by rw[<- rs.length,MV];lia,?_⟩
     have x:=Ext.write (o:=.lst (vs++[v])) r hp
     exact(show aR K g α H Q _ _ from w) _ _ α x (r.write hp ⟨_,a8,(rs.append (.cons rd .nil)).ext x⟩) .non
 | _=>exact w.elim
theorem k_ (ns:List Int):∀k,k<=ns.length->preSum (fun i=>ns.getD i 0) k=(ns.take k).sum
 | 0,_=>by rfl
 | k+1,h=>by
  rw[preSum,k_ ns k (by lia),List.take_succ,OY]
  grind
theorem fF (hc:X.calm=true):bJ X (.builtin "sum") (fun vs H Q=>∃(p:Addr) (ns:List Int),vs=[.ref p]/\(SqL X.K H p (ns.map V.int)\/SqT X.K H p (ns.map V.int))/\Q (.int ns.sum) H):=by
 intro pins s σ H xs us Q I r h
 obtain⟨p,ns,rfl,hq,q⟩:=h
 obtain⟨u,rfl,rx⟩:=vals1 r
 cases rx
 have hh:X.A.in1.handled=none:=I.ok.hd hc
 have fin:∀{its:List LM} {o:Obj},Vals (ns.map V.int) its->∀s',Moved [s.heap.objs.size] (fun a b=>b=a) { s with heap:=s.heap.push o } s'->∀t',EP X pins σ Q (.int (preSum (fun i=>ns.getD i 0) its.toArray.size) t') s':=fun{its o} rv s' mv t'=>by
  have hl:its.toArray.size=ns.length:=by rw[Mb,<- rv.length,LQ]
  have keep:=fun b u e=>mv.heap b u (by simp;exact LZ (LI e)) (ox _ e)
  have I':Inv X pins σ H s':=by
   obtain⟨hp,gs,dr,tk,os⟩:=s'
   have e1:=mv.gens
   have e2:=mv.drawn
   have e3:=mv.os
   subst e1 e2 e3
   exact I.kept keep
  refine⟨.int ns.sum,H,I',⟨t',?_⟩,q⟩
  rw[hl,k_ ns _ (LH _),List.take_length]
 have val:∀{its:List LM},Vals (ns.map V.int) its->∀i v,its.toArray[i]?=some v->∃t:Tok,v=Ol (ns.getD i 0) t:=fun{its} rv i v e=>by
  obtain⟨x,hx,rxv⟩:=rv.get' (show its[i]?=some v by simp_all)
  rw[Me] at hx
  cases en:ns[i]? with
  | none=>simp_all
  | some z=>
   rw[en] at hx
   cases hx
   obtain⟨t,e⟩:=rxv
   simp_all
 rcases hq with hq | hq
 ·obtain⟨its,rv,pl,hz⟩:=I.list hq
  have plt:p<s.heap.objs.size:=by obtain⟨o,e,_⟩:=pl.isList;exact LI e
  have hne:=LZ plt
  refine call_sum_walkAnyS (P4 pl.isList ?_)
  refine⟨s.heap.objs.size,_,_,_,its.toArray.size,_,_,fun i=>ns.getD i 0,rfl,(Walks.list hh s.heap.objs.size p hne its.toArray).toS,⟨⟨_,LN _ rfl,rfl,rfl⟩,?_⟩,fun b hb=>?_,val rv,fun s' t' mv=>fin rv s' mv t'⟩
  ·exact pl.isList.at fun o e=>ox _ e
  ·simp at hb
   rcases hb with rfl | rfl
   ·simp
   ·exact Ql plt (LI (LN _ rfl))
 ·obtain⟨its,rv,pl,hz⟩:=I.tuple hq
  have pt:s.heap.IsTuple p its.toArray:=pl
  have hne:=LZ pl.lt
  refine call_sum_walkAnyS (NK pt ?_)
  refine⟨s.heap.objs.size,_,_,_,its.toArray.size,_,_,fun i=>ns.getD i 0,rfl,(Walks.tuple hh s.heap.objs.size p hne its.toArray).toS,⟨⟨_,LN _ rfl,rfl,rfl⟩,?_⟩,fun b hb=>?_,val rv,fun s' t' mv=>fin rv s' mv t'⟩
  ·exact pt.at fun o e=>ox _ e
  ·simp at hb
   rcases hb with rfl | rfl
   ·simp
   ·exact Ql pl.lt (LI (LN _ rfl))
noncomputable def gi:List D->Hh->R D:=fun ds h=>match ds with
 | [d]=>match iO d h with
  | some xs=>match intsOf xs with
   | some ns=>.ok (.int ns.sum) h
   | none=>.bad
  | none=>.bad
 | _=>.bad
theorem kf:kF K g ε gi (fun vs H Q=>∃(p:Addr) (ns:List Int),vs=[.ref p]/\(SqL K H p (ns.map V.int)\/SqT K H p (ns.map V.int))/\Q (.int ns.sum) H):=by
 intro α H h a x Q r ra w
 obtain⟨d,v,rfl,rfl,rd⟩:=kz (fun _ _ _ _=>rfl) (fun _=>rfl) ra w
 unfold gi at w
 simp only at w
 cases e:iO d h with
 | none=>rw[e] at w;exact w.elim
 | some ds=>
  rw[e] at w
  simp only at w
  cases e2:intsOf ds with
  | none=>rw[e2] at w;exact w.elim
  | some ns=>
   rw[e2] at w
   obtain⟨p,vs,rfl,hq,rs⟩:=qw r rd e
   have e3:=eQ e2
   subst e3
   have e4:=rs.xw
   subst e4
   exact⟨p,ns,rfl,hq,aR.now w r (.int _)⟩
theorem C_:PIp X .Mult (fun x y H Q=>∃i j,x=.int i/\y=.int j/\(sml i=true/\sml j=true)/\Q (.int (i*j)) H):=by
 intro pins s σ H x y v u Q I r1 r2 h
 obtain⟨i,j,e1,e2,hc,q⟩:=h
 subst e1;subst e2
 obtain⟨t,rfl⟩:=r1
 obtain⟨t',rfl⟩:=r2
 exact imul_int ⟨.int _,H,I.tok _,⟨_,rfl⟩,q⟩ (IntMulOk.of_bits (L0 (iQ hc.1) (by decide)) (L0 (iQ hc.2) (by decide)))
noncomputable def xN:D->D->Hh->R D
 | .int i,.int j,h=>.ok (.int (i+j)) h
 | _,_,_=>.bad
noncomputable def xQ:D->D->Hh->R D
 | .int i,.int j,h=>if sml i=true/\sml j=true then .ok (.int (i*j)) h else .bad
 | _,_,_=>.bad
theorem Ez:dS K g ε xN (ipI fun i j=>i+j):=by
 intro α H h a b x y Q r ra rb w
 cases ra with
 | int i=>
  cases rb with
  | int j=>exact⟨i,j,rfl,rfl,aR.now w r (.int _)⟩
  | _=>exact w.elim
 | _=>exact w.elim
theorem zw:dS K g ε bR (ipI fun i j=>i - j):=by
 intro α H h a b x y Q r ra rb w
 cases ra with
 | int i=>
  cases rb with
  | int j=>exact⟨i,j,rfl,rfl,aR.now w r (.int _)⟩
  | _=>exact w.elim
 | _=>exact w.elim
theorem Gs:dS K g ε xQ (fun x y H Q=>∃i j,x=.int i/\y=.int j/\(sml i=true/\sml j=true)/\Q (.int (i*j)) H):=by
 intro α H h a b x y Q r ra rb w
 cases ra with
 | int i=>
  cases rb with
  | int j=>
   obtain⟨hc,w⟩:=WQ.eT w
   exact⟨i,j,rfl,rfl,hc,aR.now w r (.int _)⟩
  | _=>exact w.elim
 | _=>exact w.elim
end
section
variable {P:Mc}{w:MU}{K:gV}{mg:Str->Option LM}{base:Heap}{g:GG}
noncomputable def aG (K:gV) (mg:Str->Option LM) (x:Str) (st:Stmt):Prop:=∃f fd,mg x=some (.ref f)/\Fun K x x st f fd
noncomputable def bA (K:gV) (x:Str) (st:Stmt):Prop:=∃f fd,Mz K mainGlobals x=some (some (.ref f))/\Fun K x x st f fd
theorem Eo {st:Stmt}{kV doc pm cdv ct:LM} (a:Mz K mainGlobals x=some (some (.ref f)))
  (l:K.lookup f=some ⟨oc,od,.func (M0 x x (d6 st) (cA st) (ak st) .none kV doc pm an cdv ct),osl⟩) (c:OK K cdv x=true) (k:M5 K (.ref f)=true):bA K x st:=⟨f,_,a,Bt l c k⟩
theorem aG.of {h:Heap}{x:Str}{st:Stmt} (X:K.In h) (G:h.Ns mainGlobals mg) (d:bA K x st):aG K mg x st:=
 let ⟨f,fd,a,F⟩:=d;⟨f,fd,OZ X G a,F⟩
noncomputable def Has (P:Mc) (w:MU) (K:gV) (mg:Str->Option LM) (base:Heap) (g:GG) (x:Str) (k:Nat) (ps:List Str) (m:MF):Prop:=
 ∃f fd,dI P w K mg base CX0 k f fd ps (spM K g ps.length m)/\M5 K (.ref f)=true/\Binds K fd ps []/\mg x=some (.ref f)/\∃oc od osl,K.lookup f=some ⟨oc,od,.func fd,osl⟩
noncomputable def gOf (mg:Str->Option LM):GG:=fun x=>match mg x with
 | some (.ref f)=>some f
 | _=>none
theorem dZ {st:Stmt} (F:Fun K x x st f fd):∃oc od osl,K.lookup f=some ⟨oc,od,.func fd,osl⟩:=by
 obtain⟨oc,od,kV,doc,pm,an,cdv,ct,osl,rfl,lk,hcd⟩:=F.ex
 simp_all
theorem Ep {st:Stmt} (F:Fun K x x st f fd) (hm:mg x=some (.ref f)) (h:Has P w K mg base g x k ps m):dI P w K mg base CX0 k f fd ps (spM K g ps.length m):=by
 obtain⟨f2,fd2,G,_,_,hm2,oc,od,osl,l2⟩:=h
 obtain⟨oc',od',osl',l1⟩:=dZ F
 simp_all
end
section
variable {X:Cx}{g:GG}{ε:EE}
noncomputable def uF (i j:Nat) (m:ME):MS:=fun env h=>(m env h).bind fun d h1=>(gT2 i j d env h1).bind fun e h2=>.ok (.nx e) h2
theorem DU {i j:Nat}{x y:Str}{e:Expr}{me:ME}{px py pt pos:Pos}{kt} (hc:X.calm=true) (hN:X.N.Nodup) (hi:X.N[i]?=some x) (hj:X.N[j]?=some y) (he:PE X e (tM X.K g ε me))
  (hx:Loc X.env.scope x:=by first | exact PH rfl | exact QQ rfl) (hy:Loc X.env.scope y:=by first | exact PH rfl | exact QQ rfl)
  (fx:X.fn x=true\/X.env.scope.names.lookup x=some .local:=by first | exact .inl rfl | exact .inr rfl) (fy:X.fn y=true\/X.env.scope.names.lookup y=some .local:=by first | exact .inl rfl | exact .inr rfl)
  (hs:swapsWithSole [.Tuple [.Name x px,.Name y py] kt pt] e pos.line X.env=pure false:=by rfl) (hw:swappedStores [.Tuple [.Name x px,.Name y py] kt pt] e X.env=pure none:=by rfl) :
  PS X (.Assign [.Tuple [.Name x px,.Name y py] kt pt] e pos) (tMS X.K g ε (uF i j me)):=
 PS.imp (zO he (uP hc (gJ (dU hN hi hx fx) (gJ (dU hN hj hy fy) qz))) hs hw rfl) fun E σ H ⟨α,env,h,s,w⟩=>tM.use s w.bind fun d1 h1 v1 H1 α1 e1 s1 r1 w1=>by
  refine AE α1 H1 h1 env σ d1 v1 _ s1 r1 ((w1.ext e1).bind.mono fun e' h2 _ w2 σ2 H2 α2 e2 s2=>?_)
  exact(show cP X.K g α H E (.nx e') h2 from w2) H2 α2 (e1.trans e2) s2.heap σ2 s2.vs
end
mutual
noncomputable def iL (k:Nat):D->Bool
 | .ref n=>decide (n<k)
 | .tup ds=>cn k ds
 | .frl ds=>cn k ds
 | .scr ds=>cn k ds
 | .clo _ ds=>cn k ds
 | _=>true
noncomputable def cn (k:Nat):List D->Bool
 | []=>true
 | d::ds=>iL k d&&cn k ds
end
noncomputable def qD (k:Nat):O->Bool
 | .lst ds=>cn k ds
 | .set _=>true
 | .dic kvs=>cn k (kvs.map (·.2))
 | .dit kvs=>cn k (kvs.map (·.2))
noncomputable def kP (f:D->Option D):List D->Option (List D)
 | []=>some []
 | d::ds=>match f d,kP f ds with
  | some e,some es=>some (e::es)
  | _,_=>none
noncomputable def gB (k:Nat) (h:Hh):Nat->D->Option D
 | 0,_=>none
 | f+1,d=>match d with
  | .ref n=>if n<k then some (.ref n) else match aH h n with
   | some ds=>(kP (gB k h f) ds).map .frl
   | none=>none
  | .tup ds=>(kP (gB k h f) ds).map .tup
  | .frl ds=>(kP (gB k h f) ds).map .frl
  | .scr _=>none
  | .clo f ds=>if cn 0 ds=true then some (.clo f ds) else none
  | d=>some d
noncomputable def cV (h:Hh):D->Hh->R D:=fun d h'=>if (h'.take h.length).all (qD h.length)=true then match gB h.length h' 8 d with
 | some e=>.ok e (h'.take h.length)
 | none=>.bad else .bad
open Classical in
noncomputable def jO (S:Addr->Prop) (o:Addr->Obj) (H:Hp):Hp:=fun p=>if S p then (H p).map (.frz (o p)) else H p
theorem Fv (q:cL P w H h p u) (mu:Mut (some u)):∃o,h.get? p=some o:=by
 cases u with
 | lst xs=>obtain⟨_,_,_,_,e'⟩:=q;simp_all
 | dK kvs=>obtain⟨_,_,_,_,o,_,_,e',_⟩:=q;simp_all
 | dT kvs=>obtain⟨_,_,_,_,o,_,_,e',_⟩:=q;simp_all
 | set S n=>obtain⟨o,_,_,_,e',_⟩:=q;simp_all
 | ins C dx fs=>obtain⟨_,_,_,e',_⟩:=q;simp_all
 | ext φ=>obtain⟨_,⟨_,e'⟩,_⟩:=q;simp_all
 | _=>exact absurd mu (fun z=>z)
theorem F3 (h:CE outer P w H s Q' u s')
  (hQ:∀v H',Q' v H'->∃S:Addr->Prop,(∀p,S p->∃u,H' p=some u/\Mut (some u))/\∀o:Addr->Obj,Q v (jO S o H')):CE outer P w H s Q u s':=by
 obtain⟨v,H',os,bare,un,hok,r,q⟩:=h
 obtain⟨S,hS,q⟩:=hQ v H' q
 have hS1:∀p,S p->∀u,H' p=some u->Mut (some u):=fun p z u e=>by grind
 have off:∀(o:Addr->Obj) b u,H' b=some u->¬ Mut (some u)->jO S o H' b=some u:=fun o b u e m=>by
  unfold jO
  grind
 have offn:∀(o:Addr->Obj) b,H' b=none->jO S o H' b=none:=fun o b e=>by
  unfold jO
  simp_all
 let o:Addr->Obj:=fun b=>(s'.heap.get? b).getD { cls:=.none,data:=.fields #[] }
 refine⟨v,jO S o H',os,bare,⟨un.keep,un.slot,fun b ob e n hx=>offn o b (un.free b ob e n hx),un.there,fun b xs e=>off o b _ (un.jB b xs e) fun z=>z,fun b ob xs e=>off o b _ (un.ky b ob xs e) fun z=>z,fun b ps e=>?_⟩,?_,r,q o⟩
 ·obtain⟨more,e1⟩:=un.mJ b ps e
  exact⟨more,off o b _ e1 fun z=>z⟩
 ·intro b u e
  have st:∀u,cL P w H' s'.heap b u->cL P w (jO S o H') s'.heap b u:=fun u x=>x.kj (fun _ _ _ z=>z) (fun c z=>off o c _ z fun z=>z) fun c xs z=>off o c _ z fun z=>z
  unfold jO at e
  split at e
  ·rename_i hb
   obtain⟨u',e',m⟩:=hS b hb
   rw[e'] at e
   cases e
   have x:=hok b u' e'
   obtain⟨ob,eo⟩:=Fv x m
   refine⟨?_,st _ x⟩
   grind
  ·exact st u (hok b u e)
section
variable {K:gV}{g:GG}{α α':List Addr}{H H' H2:Hp}{k:Nat}
structure sH (K:gV) (α α':List Addr) (H' H2:Hp) (k:Nat):Prop where
 pre:∀n,n<k->α[n]?=α'[n]?
 tup:∀p xs,H' p=some (.tup xs)->H2 p=some (.tup xs)
 frz:∀p o u , H' p=some (.frz o u)->H2 p=some (.frz o u)
mutual
theorem lJ (L:sH K α α' H' H2 k):∀{d:D}{v:V},iL k d=true->aJ K g α' H' d v->aJ K g α H2 d v
 | _,_,_,.non=>.non
 | _,_,_,.bl b=>.bl b
 | _,_,_,.int i=>.int i
 | _,_,_,.str x=>.str x
 | _,_,hl,.ref h=>.ref (by rw[L.pre _ (by simpa [iL] using hl)];exact h)
 | _,_,hl,.tup h r=>.tup (L.tup _ _ h) (eR L (by assumption) r)
 | _,_,hl,.frl h r=>.frl (let ⟨o,h⟩:=h;⟨o,L.frz _ _ _ h⟩) (eR L (by assumption) r)
 | _,_,hl,.scr h r=>.scr (h.elim (fun⟨o,h⟩=>.inl ⟨o,L.frz _ _ _ h⟩) .inr) (eR L (by assumption) r)
 | _,_,_,.fn h=>.fn h
 | _,_,_,.edic h=>.edic (L.frz _ _ _ h)
 | _,_,_,.exc hg h hc hd hf=>.exc hg (L.frz _ _ _ h) hc hd (hf.elim .inl fun⟨dx,od,a,b⟩=>.inr ⟨dx,od,a,L.frz _ _ _ b⟩)
 | _,_,hl,.clo h l hc hd hv cs r=>.clo (L.frz _ _ _ h) l (L.frz _ _ _ hc) hd hv (L2.Paired.rB cs fun _ _ ⟨c,o,u,l,a,b⟩=>⟨c,o,u,l,L.frz _ _ _ a,b⟩) (eR L (by assumption) r)
theorem eR (L:sH K α α' H' H2 k):∀{ds:List D}{vs:List V},cn k ds=true->ax K g α' H' ds vs->ax K g α H2 ds vs
 | _,_,_,.nil=>.nil
 | _,_,hl,.cons r t=>by
  simp only[cn,MC] at hl
  exact .cons (lJ L hl.1 r) (eR L hl.2 t)
end
theorem jF {f:D->Option D} (hf:∀d e v,f d=some e->aJ K g α' H' d v->aJ K g α H2 e v):∀{ds es:List D}{vs:List V},kP f ds=some es->ax K g α' H' ds vs->ax K g α H2 es vs
 | [],es,_,e,.nil=>by cases e;exact .nil
 | d::ds,es,_,e,.cons r t=>by
  unfold kP at e
  split at e
  ·rename_i e1 es1 h1 h2
   cases e
   exact .cons (hf _ _ _ h1 r) (jF hf h2 t)
  grind
theorem lP {h' hx:Hh} (L:sH K α α' H' H2 k) (r:aU K g α' H' h') (hx':∀n ds,aH hx n=some ds->aH h' n=some ds) (fz:∀n p ds vs,k<=n->aH hx n=some ds->α'[n]?=some p->H' p=some (.lst vs)->Fr1 H2 p vs) :
  ∀(f:Nat) (d e:D) (v:V),gB k hx f d=some e->aJ K g α' H' d v->aJ K g α H2 e v
 | 0,_,_,_,e,_=>by cases e
 | f+1,d,e,v,he,rd=>by
  unfold gB at he
  cases rd with
  | non=>cases he;exact .non
  | bl b=>cases he;exact .bl b
  | int i=>cases he;exact .int i
  | str x=>cases he;exact .str x
  | fn h=>cases he;exact .fn h
  | edic h=>cases he;exact .edic (L.frz _ _ _ h)
  | exc hg h hc hd hf=>cases he;exact .exc hg (L.frz _ _ _ h) hc hd (hf.elim .inl fun⟨dx,od,a,b⟩=>.inr ⟨dx,od,a,L.frz _ _ _ b⟩)
  | scr _ _=>cases he
  | clo h l hc hd hv cs rs=>
   simp only at he
   split at he
   ·rename_i lo
    cases he
    exact .clo (L.frz _ _ _ h) l (L.frz _ _ _ hc) hd hv (L2.Paired.rB cs fun _ _ ⟨c,o,u,l,a,b⟩=>⟨c,o,u,l,L.frz _ _ _ a,b⟩) (eR ⟨fun n hn=>absurd hn (PL _),L.tup,L.frz⟩ lo rs)
   grind
  | tup h rs=>
   simp only at he
   cases e1:kP (gB k hx f) _ with
   | none=>rw[e1] at he;cases he
   | some es=>rw[e1] at he;cases he;exact .tup (L.tup _ _ h) (jF (fun d e v=>lP L r hx' fz f d e v) e1 rs)
  | frl h rs=>
   simp only at he
   cases e1:kP (gB k hx f) _ with
   | none=>rw[e1] at he;cases he
   | some es=>rw[e1] at he;cases he;exact .frl (let ⟨o,h⟩:=h;⟨o,L.frz _ _ _ h⟩) (jF (fun d e v=>lP L r hx' fz f d e v) e1 rs)
  | @ref n p hp=>
   simp only at he
   split at he
   ·rename_i hn
    cases he
    exact .ref (by rw[L.pre n hn];exact hp)
   ·rename_i hn
    cases el:aH hx n with
    | none=>simp_all
    | some ds=>
     rw[el] at he
     simp only at he
     cases e1:kP (gB k hx f) ds with
     | none=>simp_all
     | some es=>
      rw[e1] at he;cases he
      obtain⟨vs,hv,rs⟩:=r.lst (hx' n ds el) hp
      exact .frl (fz n p ds vs (by lia) el hp hv) (jF (fun d e v=>lP L r hx' fz f d e v) e1 rs)
end
theorem sQ {β:Type}{l:List β}{k n:Nat}{x:β} (e:(l.take k)[n]?=some x):n<k/\l[n]?=some x:=by
 rw[Ow] at e
 split at e
 ·exact⟨by assumption,e⟩
 ·cases e
theorem xS {α α':List Addr} (h:α <+: α'){n:Nat} (hn:n<α.length):α[n]?=α'[n]?:=by
 obtain⟨t,rfl⟩:=h
 rw[LV hn]
theorem CI {β:Type}{l:List β}{f:β->Bool} (h:l.all f=true){n:Nat}{x:β} (e:l[n]?=some x):f x=true:=L4.mp h x (Ms e)
theorem zJ {K:gV}{g:GG}{h h':Hh} (r0:α.length=h.length) (e:Ext K α H α' H') (r:aU K g α' H' h') (hl:(h'.take h.length).all (qD h.length)=true)
  (L:sH K α2 α' H' H2 h.length) (kp:∀n p u,n<h.length->α'[n]?=some p->H' p=some u->H2 p=some u):∀n p o , n<h.length->α'[n]?=some p->(h'.take h.length)[n]?=some o->OAt K g α2 H2 p o:=by
 intro n p o hn hp ho
 have lo:=CI hl ho
 obtain⟨_,ho'⟩:=sQ ho
 have q:=r.here n p o hp ho'
 cases o with
 | lst ds=>obtain⟨vs,a,b⟩:=q;exact⟨vs,kp n p _ hn hp a,eR L lo b⟩
 | set m=>exact kp n p _ hn hp q
 | dic kvs=>
  obtain⟨kws,a,b⟩:=q
  refine⟨kws,kp n p _ hn hp a,?_⟩
  replace lo:cn h.length (kvs.map (·.2))=true:=lo
  clear a ho ho'
  induction b with
  | nil=>exact .nil
  | cons x t ih=>
   simp only[LW,cn,MC] at lo
   exact .cons ⟨x.1,lJ L lo.1 x.2⟩ (ih lo.2)
 | dit kvs=>
  obtain⟨kws,a,b⟩:=q
  refine⟨kws,kp n p _ hn hp a,?_⟩
  replace lo:cn h.length (kvs.map (·.2))=true:=lo
  clear a ho ho'
  induction b with
  | nil=>exact .nil
  | cons x t ih=>
   simp only[LW,cn,MC] at lo
   exact .cons ⟨x.1,lJ L lo.1 x.2⟩ (ih lo.2)
section
variable {P:Mc}{w:MU}{K:gV}{mg:Str->Option LM}{base:Heap}{g:GG}{k np:Nat}{f:Addr}{fd:Pf}{ps:List Str}{m:MF}
theorem qA {CX:CXT}{ε:XK->EE} (F:dI P w K mg base CX k f fd ps (spG K g ε np m)):dI P w K mg base CX k f fd ps (spG K g ε np fun ds h=>(m ds h).bind (cV h)):=by
 refine⟨fun vs H Q E h=>?_,fun A outer s H args us vs Q E hr e0 hb hv hsp=>?_⟩
 ·obtain⟨hl,α,ds,h,rs,hh,w⟩:=h
  exact F.len vs H (fun _ _=>True) E ⟨hl,α,ds,h,rs,hh,w.bind.mono fun _ _ _ _ _ _ _ _ _ _=>trivial⟩
 ·obtain⟨hl,α,ds,h,rs,hh,w⟩:=hsp
  refine Of (F.run A outer s H args us vs (fun v H'=>∃α' d h',Ext K α H α' H'/\aU K g α' H' h'/\aJ K g α' H' d v/\WQ K g (ε E) α H (cV h d h') (aR K g α H Q)) E hr e0 hb hv ⟨hl,α,ds,h,rs,hh,w.bind.mono fun d h' _ w1 v H' α' e r rd=>⟨α',d,h',e,r,rd,w1⟩⟩) fun res s' q=>?_
  cases res with
  | error e=>exact q
  | ok fl=>
   cases fl with
   | ret u=>
    refine F3 (show CE outer P _ H s _ u s' from q) fun v H' ⟨α',d,h',e,r,rd,w⟩=>?_
    refine⟨fun p=>∃n ds,h.length<=n/\α'[n]?=some p/\aH h' n=some ds,fun p ⟨n,ds,_,hp,hn⟩=>?_,fun o=>?_⟩
    ·obtain⟨vs,hv,_⟩:=r.lst hn hp
     exact⟨_,hv,trivial⟩
    ·unfold cV at w
     obtain⟨hl,w⟩:=WQ.eT w
     cases ez:gB h.length h' 8 d with
     | none=>rw[ez] at w;exact w.elim
     | some e'=>
      rw[ez] at w
      generalize hS:(fun p=>∃n ds,h.length<=n/\α'[n]?=some p/\aH h' n=some ds)=S
      have inS:∀p,S p↔∃n ds,h.length<=n/\α'[n]?=some p/\aH h' n=some ds:=fun p=>by rw[<- hS]
      have k0:=hh.len
      have notS:∀p u,H' p=some u->(∀vs,u≠.lst vs)->¬ S p:=fun p u e1 e2 z=>by
       obtain⟨n,ds,_,hp,hn⟩:=(inS p).mp z
       obtain⟨vs,hv,_⟩:=r.lst hn hp
       rw[e1] at hv;cases hv;exact e2 vs rfl
      have off:∀p,¬ S p->jO S o H' p=H' p:=fun p z=>by unfold jO;rw[if_neg z]
      have offT:∀(p:Addr) (ps:Array LM),H' p=some (.tbl ps)->jO S o H' p=some (.tbl ps):=fun p ps z=>by rw[off p (notS p _ z fun vs z=>nomatch z)];exact z
      have L:sH K α α' H' (jO S o H') h.length:=⟨fun n hn=>xS e.pre (by lia),fun p xs z=>by rw[off p (notS p _ z fun vs z=>nomatch z)];exact z,fun p o u z=>by rw[off p (notS p _ z fun vs z=>nomatch z)];exact z⟩
      have kp:∀n p u,n<h.length->α'[n]?=some p->H' p=some u->jO S o H' p=some u:=fun n p u hn hp e1=>by
       rw[off p fun z=>?_];exact e1
       obtain⟨m,ds,hm,hp',_⟩:=(inS p).mp z
       have:=r.inj n m p hp hp'
       lia
      have rd2:=lP L r (fun _ _ z=>z) (fun n p ds vs hn hl hp hv=>⟨o p,by unfold jO;rw[if_pos ((inS p).mpr ⟨n,ds,hn,hp,hl⟩),hv];rfl⟩) 8 d e' v ez rd
      refine(show aR K g α H Q e' (h'.take h.length) from w) v _ α ⟨⟨OO _,fun p xs z=>L.tup p xs (e.tup p xs z),fun p o u z=>L.frz p o u (e.frz p o u z),fun p ps z=>(e.tbl p ps z).imp fun _ q=>offT p _ q⟩,fun p u z n nt=>?_,fun _ z n=>absurd z n⟩ ⟨?_,fun n m p h1 h2=>hh.inj n m p h1 h2,fun n p ob h1 h2=>?_,r.tab.mono offT L.frz⟩ rd2
      ·rw[off p fun z'=>?_];exact e.kept p u z n nt
       obtain⟨m,ds,_,hp',_⟩:=(inS p).mp z'
       have:=e.new p (Ms hp') n
       rw[z] at this;cases this
      ·rw[Nf,<- r.len]
       have:=e.pre.length_le
       lia
      ·have hn:=(sQ h2).1
       rw[xS e.pre (by lia)] at h1
       exact zJ k0 e r hl L kp n p ob hn h1 h2
   | next=>exact q
   | brk=>exact q
   | cont=>exact q
end
end L2.FE
namespace L2
open PySem PySem.Spec PyProof.Rows
noncomputable def Izl (K:gV) (a b:Addr):It:=
 ⟨fun i H=>∃xs ys x y,SqL K H a xs/\SqL K H b ys/\xs[i]?=some x/\ys[i]?=some y,
  fun i H x H'=>∃p v w,x=.ref p/\H p=none/\(∀xs,SqL K H a xs->xs[i]?=some v)/\(∀ys,SqL K H b ys->ys[i]?=some w)/\H'=upd H p (.tup [v,w]),
  fun i H=>∃xs ys,SqL K H a xs/\SqL K H b ys/\(xs.length<=i\/ys.length<=i)⟩
structure ZA (z TI TO i1 i2:Addr):Prop where
 TIz:TI≠z
 TOz:TO≠z
 i1z:i1≠z
 i2z:i2≠z
 TITO:TI≠TO
 TIi1:TI≠i1
 TIi2:TI≠i2
 TOi1:TO≠i1
 TOi2:TO≠i2
 i12:i1≠i2
noncomputable def DW (z TI TO i1 i2 a b:Addr) (i:Nat) (h:Heap):Prop:=
 Qr h z TI TO .none/\OB h TI (.ref i1) (.ref i2)/\(∃x y,OB h TO x y)/\h.IsListIter i1 a i/\h.IsListIter i2 b i
theorem oP {z TI TO i1 i2 a b:Addr} (A:ZA z TI TO i1 i2) (st:DW z TI TO i1 i2 a b i h) (ha:h.IsList a xs) (hb:h.IsList b ys):QB z TI TO i1 i2 a b:=by
 obtain⟨hz,hTI,⟨x,y,hTO⟩,h1,h2⟩:=st
 have cl:∀{l:Addr} {vs:Array LM},h.IsList l vs->l≠z/\l≠TO/\l≠i1/\l≠i2:=fun{l vs} hl=>by
  obtain⟨oa,qa,ca,_⟩:=hl
  obtain⟨o1,q1,c1,_⟩:=h1
  obtain⟨o2,q2,c2,_⟩:=h2
  grind
 obtain⟨a1,a2,a3,a4⟩:=cl ha
 obtain⟨b1,b2,b3,b4⟩:=cl hb
 exact⟨A.TIz,A.TOz,A.i1z,A.i2z,A.TITO,A.TIi1,A.TIi2,A.TOi1,A.TOi2,A.i12,a1,a2,a3,a4,b1,b2,b3,b4⟩
theorem yE {P:Mc}{w:MU}{K:gV}{elts:List Expr}{k:Nat}{pos:Pos}{a b z TI TO i1 i2:Addr} (A:ZA z TI TO i1 i2):Turn P w K (.Tuple elts k pos) (Izl K a b) [z,TI,TO,i1,i2] z (DW z TI TO i1 i2 a b) where
 mem:=by simp
 obj:=fun i h st c hc=>by
  obtain⟨hz,hTI,⟨x,y,hTO⟩,⟨o1,q1,_,d1⟩,⟨o2,q2,_,d2⟩⟩:=st
  simp only[LR,M6,or_false] at hc
  rcases hc with e | e | e | e | e<;>rw[e]
  ·exact⟨_,hz,fun v q=>nomatch q⟩
  ·exact⟨_,hTI,fun v q=>nomatch q⟩
  ·exact⟨_,hTO,fun v q=>nomatch q⟩
  ·exact⟨o1,q1,fun v y=>by rw[d1] at y;cases y⟩
  ·exact⟨o2,q2,fun v y=>by rw[d2] at y;cases y⟩
 keep:=fun i h h' st kk=>by
  obtain⟨hz,hTI,⟨x,y,hTO⟩,h1,h2⟩:=st
  exact⟨kk z (by simp) _ hz,kk TI (by simp) _ hTI,⟨x,y,kk TO (by simp) _ hTO⟩,h1.at fun o q=>kk i1 (by simp) o q,h2.at fun o q=>kk i2 (by simp) o q⟩
 item:=by
  intro X hP hw hK hc i pins s σ H E I hf st hg
  subst hP hw hK
  obtain⟨xs,ys,x,y,hq,hr,hx,hy⟩:=hg
  obtain⟨its,rv,p,hz⟩:=I.list hq
  obtain⟨jts,rw',p',hz'⟩:=I.list hr
  obtain⟨u,hu,ru⟩:=rv.get hx
  obtain⟨u',hu',ru'⟩:=rw'.get hy
  have D:=oP A st p.isList p'.isList
  obtain⟨z1,z2,⟨t1,t2,z3⟩,z4,z5⟩:=st
  refine wpAny_pyNext_zip_item D z1 z2 z3 z4 z5 p.isList p'.isList (x:=u) (y:=u') (by simpa using hu) (by simpa using hu') fun h1 a1 a2 a3 a4 a5 a6 k1=>?_
  refine⟨_,rfl,wpAny_letOwnedTupleGo_zip a1 fun h2 b1 b2=>?_⟩
  have lt:∀{c o},s.heap.get? c=some o->s.heap.objs.size≠c:=fun e=>NR (LI e)
  have kk:∀c o,c∉[z,TI,TO,i1,i2]->s.heap.get? c=some o->h2.get? c=some o:=fun c o hc q=>by
   simp only[LR,M6,or_false,not_or] at hc
   exact b2.extBut _ _ hc.1 (k1 c o hc.1 hc.2.2.1 hc.2.2.2.1 hc.2.2.2.2 q)
  have hn:H s.heap.objs.size=none:=I.hok.fresh (LH _)
  have hzT:s.heap.objs.size≠z:=lt z1
  have nTf:∀c∈[z,TI,TO,i1,i2],c≠s.heap.objs.size:=fun c hc=>by
   simp only[LR,M6,or_false] at hc
   rcases hc with e | e | e | e | e<;>rw[e]
   ·exact(lt z1).symm
   ·exact(lt z2).symm
   ·exact(lt z3).symm
   ·obtain⟨o,q,_⟩:=z4;exact(lt q).symm
   ·obtain⟨o,q,_⟩:=z5;exact(lt q).symm
  have hT2:kx h2 s.heap.objs.size #[u,u']:=⟨_,b2.extBut _ _ hzT a5,⟨rfl,_,rfl⟩,rfl⟩
  refine⟨.ref s.heap.objs.size,upd H s.heap.objs.size (.tup [x,y]),I.yielded (t':=s.toks) hf kk (LH _) ⟨by show 2<=sizeLine;decide,[u,u'],.cons ru (.cons ru' .nil),hT2⟩,rfl,⟨_,x,y,rfl,hn,fun l hl=>by rw[I.iy hl hq];exact hx,fun l hl=>by rw[I.iy hl hr];exact hy,rfl⟩,?_,fun c hc=>by rw[aK (nTf c hc)];exact(hf c hc).1⟩
  exact⟨b1,b2.extBut _ _ A.TIz (k1 _ _ A.TIz A.TITO A.TIi1 A.TIi2 z2),⟨_,_,b2.extBut _ _ A.TOz a2⟩,a3.extBut b2.extBut A.i1z,a4.extBut b2.extBut A.i2z⟩
 done:=by
  intro X hP hw hK hc i pins s σ H E I hf st hg
  subst hP hw hK
  obtain⟨xs,ys,hq,hr,hx⟩:=hg
  obtain⟨its,rv,p,hz⟩:=I.list hq
  obtain⟨jts,rw',p',hz'⟩:=I.list hr
  have D:=oP A st p.isList p'.isList
  obtain⟨z1,z2,⟨t1,t2,z3⟩,z4,z5⟩:=st
  have hl:=rv.length
  have hl':=rw'.length
  refine wpAny_pyNext_zip_end (I.ok.hd hc) D z1 z2 z3 z4 z5 p.isList p'.isList ?_ fun h' eb=>⟨rfl,I.lT (t':=s.toks) hf fun b u hb q=>eb b u (fun z=>hb (by simp[z])) (fun z=>hb (by simp[z])) (fun z=>hb (by simp[z])) (fun z=>hb (by simp[z])) q⟩
  rcases hx with hx | hx
  ·exact .inl (NA (by rw[Mb];lia))
  ·exact .inr (NA (by rw[Mb];lia))
 self:=fun A i s Q E st q=>Po st.1 q
end L2
namespace L2.FE
open PySem PySem.Spec PyProof.Rows
section
variable {X:Cx}{g:GG}{ε:EE}{K:gV}
noncomputable def gq:List D->List D->List D
 | x::xs,y::ys=>D.tup [x,y]::gq xs ys
 | _,_=>[]
theorem mN:∀{ds es:List D}{i:Nat},(gq ds es)[i]?=match ds[i]?,es[i]? with | some d,some e=>some (D.tup [d,e]) | _,_=>none
 | [],_,_=>by rfl
 | _::_,[],_=>by
  simp only[gq]
  simp
 | _::_,_::_,0=>by rfl
 | _::xs,_::ys,i+1=>by
  simp only[gq]
  exact mN
theorem wa (hr:aU K g α H h) (rv:aJ K g α H d v) (rw':aJ K g α H e w) (hp:H p=none) :
  ∃α',Ext K α H α' (upd H p (.tup [v,w]))/\aU K g α' (upd H p (.tup [v,w])) h/\aJ K g α' (upd H p (.tup [v,w])) (.tup [d,e]) (.ref p):=
 ⟨α,Ext.fresh hp,hr.grow hp,.tup a8 (.cons (rv.ext (Ext.fresh hp)) (.cons (rw'.ext (Ext.fresh hp)) .nil))⟩
theorem yX {α:List Addr}{H:Hp}{a b:Addr}{ds es:List D}{vs ws:List V} (hq:Fro K H a vs) (rs:ax K g α H ds vs) (hq':Fro K H b ws) (rs':ax K g α H es ws):Reads K g (Izl K a b) (Src.snap (gq ds es)).rdr α H:=by
 intro α2 H2 h2 x2 hr i
 have hq2:=(x2.fro _ _ hq).sq
 have hq2':=(x2.fro _ _ hq').sq
 have rs2:=rs.ext x2
 have rs2':=rs'.ext x2
 show match some (gq ds es)[i]? with | none=>True | some none=>_ | some (some d)=>_
 rw[mN]
 cases e:ds[i]? with
 | none=>
  have:ds.length<=i:=Mv.mp e
  exact⟨vs,ws,hq2,hq2',.inl (by rw[<- rs.length];lia)⟩
 | some d=>
  cases e':es[i]? with
  | none=>
   have:es.length<=i:=Mv.mp e'
   exact⟨vs,ws,hq2,hq2',.inr (by rw[<- rs'.length];lia)⟩
  | some d'=>
   obtain⟨v,ev,rv⟩:=rs2.get e
   obtain⟨v',ev',rv'⟩:=rs2'.get e'
   refine⟨⟨vs,ws,v,v',hq2,hq2',ev,ev'⟩,fun x H' y=>?_⟩
   obtain⟨p,u,u',e1,hp,e2,e2',e3⟩:=y
   subst e1 e3
   have:=e2 vs hq2
   rw[ev] at this
   cases this
   have:=e2' ws hq2'
   rw[ev'] at this
   cases this
   exact wa hr rv rv' hp
noncomputable def x8 (m:MF):MF:=fun ds h=>if cn 0 ds=true then match m ds [] with
  | .ok d _=>if iL 0 d=true then .ok d h else .bad
  | _=>.bad
 else m ds h
theorem wq (e:Ext K [] H α' H'):Ext K α H α H':=
 ⟨⟨OO _,e.tup,e.frz,e.tbl⟩,fun p o h _ t=>e.kept p o h (by simp) t,fun p a b=>absurd a b⟩
theorem zp (e:Ext K [] H α' H') (r:aU K g α H h) (t:iJ K H'):aU K g α H' h:=
 ⟨r.len,r.inj,fun n p o a b=>(r.here n p o a b).ex0 (wq e).toEx0 fun u hu=>e.kept p u hu (by simp) (by obtain⟨u',e1,_,_,e4⟩:=(r.here n p o a b).isS;simp_all),t⟩
theorem Bm (h:spM K g np (x8 m) vs H Q E):spM K g np m vs H Q E:=by
 obtain⟨hl,α,ds,h,rs,hh,w⟩:=h
 unfold x8 at w
 by_cases lo:cn 0 ds=true
 ·rw[if_pos lo] at w
  cases e:m ds [] with
  | bad=>rw[e] at w;exact w.elim
  | err x h1=>rw[e] at w;exact w.elim
  | ok d h1=>
   rw[e] at w
   obtain⟨ld,w⟩:=WQ.eT w
   refine⟨hl,[],ds,[],eR ⟨fun n hn=>absurd hn (PL _),fun _ _ z=>z,fun _ _ _ z=>z⟩ lo rs,⟨rfl,fun n m p a=>by simp at a,fun n p o a=>by simp at a,hh.tab⟩,?_⟩
   rw[e]
   exact fun v H' α' ex hr' rd=>(show aR K g α H Q d h from w) v H' α (wq ex) (zp ex hh hr'.tab) (lJ ⟨fun n hn=>absurd hn (PL _),fun _ _ z=>z,fun _ _ _ z=>z⟩ ld rd)
 ·rw[if_neg lo] at w
  exact⟨hl,α,ds,h,rs,hh,w⟩
theorem Fe (F:dI P w K mg base CX0 k f fd ps (spM K g np m)):dI P w K mg base CX0 k f fd ps (spM K g np (x8 m)):=
 ⟨fun vs H Q E h=>F.len vs H Q E (Bm h),fun A outer s H args us vs Q E hr e0 hb hv hsp=>F.run A outer s H args us vs Q E hr e0 hb hv (Bm hsp)⟩
end
end L2.FE
namespace L2
open PySem PySem.Spec PyProof.Rows
section
variable {prog:Mc}{w:MU}{A:MY}{E:LM->LP->Prop}{s:LP}
theorem ye {z U V a b p q:Addr}{Q:LM->LP->Prop} (D:QB z U V a b p q) (hz:Qr s.heap z U V .none) (hU:OB s.heap U (.ref a) (.ref b)) (hV:OB s.heap V v1 v2)
  (ha:s.heap.IsTupleIter a p i) (hb:s.heap.IsTupleIter b q j) (hp:s.heap.IsTuple p xs) (hq:s.heap.IsTuple q ys) (hx:xs[i]?=some x) (hy:ys[j]?=some y)
  (K:∀h',Qr h' z U V (rawInt s.heap.objs.size)->OB h' V x y->h'.IsTupleIter a p (i+1)->h'.IsTupleIter b q (j+1)->OB h' s.heap.objs.size x y->h'.objs.size=s.heap.objs.size+1->(∀c o,c≠z->c≠V->c≠a->c≠b->s.heap.get? c=some o->h'.get? c=some o)->Q (.ref s.heap.objs.size) { s with heap:=h' }) :
  wpAny (model prog w) A (NC.«zip.__next__» ⟨[.ref z],[]⟩) (fun f s'=>∃v,f=.done (.ret v)/\Q v s') E s:=by
 show wpAny _ _ (field (.ref z) 2 >>= _) _ _ _;refine k3 (Nt hz rfl (x:=.bool false) rfl ?_);show wpAny _ _ (field (.ref z) 3 >>= _) _ _ _
 refine k3 (Nt hz rfl (x:=.ref U) rfl (k3 (N5 hU rfl ?_)))
 show wpAny _ _ (Nk (.ref z) >>= _) _ _ _;refine k3 ?_;unfold Nk
 refine k3 (Nt hz rfl (x:=.none) rfl (LJ ?_));simp only[if_true]
 refine k3 (Py (k3 (Nt hz rfl (x:=.ref V) rfl (k3 (N3 hz (by simp) fun g1 z1 m1=>?_)))))
 replace z1:Qr g1 z U V .ellipsis:=z1
 refine k3 ?_;simp only[Qc,List.zipIdx_nil,PF,List.forIn_nil]
 refine k3 (k3 (P7 ?_));show wpAny _ _ (Nd (.ref a) >>= _) _ _ _
 refine k3 (gW (ha.extBut m1.extBut D.i1z) (hp.extBut m1.extBut D.l1z) hx fun g2 a2 m2=>LJ ?_)
 have V2:OB g2 V v1 v2:=m2.extBut _ _ D.TOi1 (m1.extBut _ _ D.TOz hV)
 refine k3 (N5 V2 rfl (k3 (Pr V2 fun g3 V3 m3=>?_)))
 replace V3:OB g3 V x v2:=V3
 refine k3 (Q7 (LJ (k3 (k3 (P7 ?_)))));show wpAny _ _ (Nd (.ref b) >>= _) _ _ _
 refine k3 (gW (((hb.extBut m1.extBut D.i2z).extBut m2.extBut D.i12.symm).extBut m3.extBut D.TOi2.symm) (((hq.extBut m1.extBut D.l2z).extBut m2.extBut D.l2i1).extBut m3.extBut D.l2TO) hy fun g4 b4 m4=>LJ ?_)
 have V4:OB g4 V x v2:=m4.extBut _ _ D.TOi2 V3
 refine k3 (N5 V4 rfl (k3 (Pr V4 fun g5 V5 m5=>?_)))
 replace V5:OB g5 V x y:=V5
 refine k3 (Q7 (LJ (LJ (k3 (N5 V5 rfl (k3 (Qt ?_)))))))
 have n5:g5.objs.size=s.heap.objs.size:=by rw[m5.1,m4.1,m3.1,m2.1,m1.1]
 have z5:Qr g5 z U V .ellipsis:=m5.extBut _ _ D.TOz.symm (m4.extBut _ _ D.i2z.symm (m3.extBut _ _ D.TOz.symm (m2.extBut _ _ D.i1z.symm z1)))
 have k5:∀c o,c≠z->c≠V->c≠a->c≠b->s.heap.get? c=some o->g5.get? c=some o:=fun c o c1 c2 c3 c4 e=>m5.extBut _ _ c2 (m4.extBut _ _ c4 (m3.extBut _ _ c2 (m2.extBut _ _ c3 (m1.extBut _ _ c1 e))))
 have a5:g5.IsTupleIter a p (i+1):=((a2.extBut m3.extBut D.TOi1.symm).extBut m4.extBut D.i12).extBut m5.extBut D.TOi1.symm
 have b5:g5.IsTupleIter b q (j+1):=b4.extBut m5.extBut D.TOi2.symm
 have lz:z<g5.objs.size:=LI z5
 show wpAny _ _ (NC.SmallTypes.ownedTupleHandOut (.ref z) (.ref g5.objs.size) >>= _) _ _ _;refine k3 ?_;unfold NC.SmallTypes.ownedTupleHandOut
 have z6:Qr (g5.push { cls:=.type "tuple", data:=.seq #[x,y] }) z U V .ellipsis:=ox _ z5
 refine k3 (N3 z6 (by simp) fun g7 z7 m7=>?_)
 replace z7:Qr g7 z U V (rawInt g5.objs.size):=z7
 refine N3 z7 (by simp) fun g8 z8 m8=>?_
 replace z8:Qr g8 z U V (rawInt g5.objs.size):=z8
 have up:∀c o,c≠z->g5.get? c=some o->g8.get? c=some o:=fun c o c1 e=>m8.extBut _ _ c1 (m7.extBut _ _ c1 (ox _ e))
 have T8:OB g8 g5.objs.size x y:=m8.extBut _ _ (NR lz) (m7.extBut _ _ (NR lz) (LN _ rfl))
 have n8:g8.objs.size=g5.objs.size+1:=by rw[m8.1,m7.1,NT]
 rw[n5] at z8 T8 n8
 refine LJ ⟨_,rfl,?_⟩;show Q (.ref g5.objs.size) _;rw[n5]
 exact K g8 z8 (up _ _ D.TOz V5) (a5.at fun o e=>up _ o D.i1z e) (b5.at fun o e=>up _ o D.i2z e) T8 n8 fun c o c1 c2 c3 c4 e=>up c o c1 (k5 c o c1 c2 c3 c4 e)
theorem Bv {z U V a b p q:Addr}{i j:Nat}{xs ys:Array LM}{v1 v2:LM}{Q:Fin->LP->Prop} (hh:A.handled=none) (D:QB z U V a b p q) (hz:Qr s.heap z U V .none) (hU:OB s.heap U (.ref a) (.ref b)) (hV:OB s.heap V v1 v2)
  (ha:s.heap.IsTupleIter a p i) (hb:s.heap.IsTupleIter b q j) (hp:s.heap.IsTuple p xs) (hq:s.heap.IsTuple q ys) (he:xs[i]?=none\/ys[j]?=none)
  (K:∀h' e,(∀c o,c≠z->c≠V->c≠a->c≠b->s.heap.get? c=some o->h'.get? c=some o)->(∃o,h'.get? e=some o/\o.cls=.type "StopIteration")->E (.ref e) { s with heap:=h' }):wpAny (model prog w) A (NC.«zip.__next__» ⟨[.ref z],[]⟩) Q E s:=by
 show wpAny _ _ (field (.ref z) 2 >>= _) _ _ _;refine k3 (Nt hz rfl (x:=.bool false) rfl ?_);show wpAny _ _ (field (.ref z) 3 >>= _) _ _ _
 refine k3 (Nt hz rfl (x:=.ref U) rfl (k3 (N5 hU rfl ?_)))
 show wpAny _ _ (Nk (.ref z) >>= _) _ _ _;refine k3 ?_;unfold Nk
 refine k3 (Nt hz rfl (x:=.none) rfl (LJ ?_));simp only[if_true]
 refine k3 (Py (k3 (Nt hz rfl (x:=.ref V) rfl (k3 (N3 hz (by simp) fun g1 z1 m1=>?_)))))
 replace z1:Qr g1 z U V .ellipsis:=z1
 refine k3 ?_;simp only[Qc,List.zipIdx_nil,PF,List.forIn_nil]
 refine k3 (k3 (P7 ?_));show wpAny _ _ (Nd (.ref a) >>= _) _ _ _
 cases hx:xs[i]? with
 | none=>
  refine k3 (iU hh (ha.extBut m1.extBut D.i1z) (hp.extBut m1.extBut D.l1z) hx fun g2 e m2 ee=>?_)
  obtain⟨oe,e1,e2⟩:=ee
  have z2:Qr g2 z U V .ellipsis:=m2 _ _ D.i1z.symm z1
  have ez:e≠z:=fun u=>by grind
  exact N3 z2 (by simp) fun g3 _ m3=>K g3 e (fun c o c1 _ c3 _ u=>m3.extBut _ _ c1 (m2 _ _ c3 (m1.extBut _ _ c1 u))) ⟨oe,m3.extBut _ _ ez e1,e2⟩
 | some x=>
  have hy:ys[j]?=none:=he.resolve_left (by simp_all)
  refine k3 (gW (ha.extBut m1.extBut D.i1z) (hp.extBut m1.extBut D.l1z) hx fun g2 a2 m2=>LJ ?_)
  have V2:OB g2 V v1 v2:=m2.extBut _ _ D.TOi1 (m1.extBut _ _ D.TOz hV)
  refine k3 (N5 V2 rfl (k3 (Pr V2 fun g3 V3 m3=>?_)))
  refine k3 (Q7 (LJ (k3 (k3 (P7 ?_)))));show wpAny _ _ (Nd (.ref b) >>= _) _ _ _
  refine k3 (iU hh (((hb.extBut m1.extBut D.i2z).extBut m2.extBut D.i12.symm).extBut m3.extBut D.TOi2.symm) (((hq.extBut m1.extBut D.l2z).extBut m2.extBut D.l2i1).extBut m3.extBut D.l2TO) hy fun g4 e m4 ee=>?_)
  obtain⟨oe,e1,e2⟩:=ee
  have z4:Qr g4 z U V .ellipsis:=m4 _ _ D.i2z.symm (m3.extBut _ _ D.TOz.symm (m2.extBut _ _ D.i1z.symm z1))
  have ez:e≠z:=fun u=>by grind
  exact N3 z4 (by simp) fun g5 _ m5=>K g5 e (fun c o c1 c2 c3 c4 u=>m5.extBut _ _ c1 (m4 _ _ c4 (m3.extBut _ _ c2 (m2.extBut _ _ c3 (m1.extBut _ _ c1 u))))) ⟨oe,m5.extBut _ _ ez e1,e2⟩
theorem zd {z U V a b p q:Addr} (D:QB z U V a b p q) (hz:Qr s.heap z U V .none) (hU:OB s.heap U (.ref a) (.ref b)) (hV:OB s.heap V v1 v2)
  (ha:s.heap.IsTupleIter a p i) (hb:s.heap.IsTupleIter b q j) (hp:s.heap.IsTuple p xs) (hq:s.heap.IsTuple q ys) (hx:xs[i]?=some x) (hy:ys[j]?=some y)
  (K:∀h',Qr h' z U V (rawInt s.heap.objs.size)->OB h' V x y->h'.IsTupleIter a p (i+1)->h'.IsTupleIter b q (j+1)->OB h' s.heap.objs.size x y->h'.objs.size=s.heap.objs.size+1->(∀c o,c≠z->c≠V->c≠a->c≠b->s.heap.get? c=some o->h'.get? c=some o)->Q (some (.ref s.heap.objs.size)) { s with heap:=h' }) :
  wpAny (model prog w) A (pyNext (.ref z)) Q E s:=by
 have ty:s.TypeIs (.ref z) "zip" := ⟨_,hz,rfl⟩
 unfold pyNext;refine k3 (QC (Nu (name:=Qf "__next__") ty PM (Ny PM ty F.entry_zip_next ?_ (F.args_zip_next_1 _))))
 exact ye D hz hU hV ha hb hp hq hx hy fun h' b1 b2 b3 b4 b5 b6 b7=>LJ (K h' b1 b2 b3 b4 b5 b6 b7)
theorem BA {z U V a b p q:Addr}{i j:Nat}{xs ys:Array LM}{v1 v2:LM}{Q:Option LM->LP->Prop} (hh:A.handled=none) (D:QB z U V a b p q) (hz:Qr s.heap z U V .none) (hU:OB s.heap U (.ref a) (.ref b)) (hV:OB s.heap V v1 v2)
  (ha:s.heap.IsTupleIter a p i) (hb:s.heap.IsTupleIter b q j) (hp:s.heap.IsTuple p xs) (hq:s.heap.IsTuple q ys) (he:xs[i]?=none\/ys[j]?=none)
  (K:∀h',(∀c o,c≠z->c≠V->c≠a->c≠b->s.heap.get? c=some o->h'.get? c=some o)->Q none { s with heap:=h' }):wpAny (model prog w) A (pyNext (.ref z)) Q E s:=by
 have ty:s.TypeIs (.ref z) "zip" := ⟨_,hz,rfl⟩
 unfold pyNext;refine k3 (QC (Nu (name:=Qf "__next__") ty PM (Ny PM ty F.entry_zip_next ?_ (F.args_zip_next_1 _))))
 refine Bv hh D hz hU hV ha hb hp hq he fun h' e kk ⟨o,ho,hc⟩=>?_
 exact k3 (wpAny_isInstance (T:="StopIteration") (b:=true) ⟨o,ho,hc⟩ isSubtype_stop (LJ (K _ kk)))
end
noncomputable def zh1 (h:Heap) (p:Addr):Heap:=h.push { cls:=.type "tuple_iterator", data:=.fields #[.ref p,.int 0 0] }
noncomputable def zh2 (h:Heap) (p q:Addr):Heap:=(zh1 h p).push { cls:=.type "tuple_iterator", data:=.fields #[.ref q,.int 0 0] }
noncomputable def zh3 (h:Heap) (p q:Addr):Heap:=(zh2 h p q).push { cls:=.type "tuple", data:=.seq #[.ref h.objs.size,.ref (zh1 h p).objs.size] }
noncomputable def zh4 (h:Heap) (p q:Addr):Heap:=(zh3 h p q).push { cls:=.type "tuple", data:=.seq #[.none,.none] }
noncomputable def zh5 (h:Heap) (p q:Addr):Heap:=(zh4 h p q).push { cls:=.type "zip", data:=.fields #[.none,.bool false,.bool false,.ref (zh2 h p q).objs.size,.ref (zh3 h p q).objs.size] }
theorem v8 (p q:Addr) (xs ys:Array LM):Meets (NC.«zip.__new__» ⟨[.type "zip", .ref p,.ref q],[]⟩) (fun _ R s=>s.heap.IsTuple p xs/\s.heap.IsTuple q ys/\R (.ok (.ret (.ref (zh4 s.heap p q).objs.size))) { s with heap:=zh5 s.heap p q }):=
 .of_wp fun prog w A R s h=>by
  obtain⟨hp,g,d,tk,os⟩:=s;obtain⟨h1,h2,h⟩:=h
  have sub:=sub_zip
  have t1:Qj (Q6 ⟨hp,g,d,tk,os⟩) p xs:=h1
  have t2:Qj (Q6 ⟨hp.push { cls:=.type "tuple_iterator", data:=.fields #[.ref p,.int 0 0] },g,d,tk,os⟩) q ys:=Qj.at h2 fun o e=>ox _ e
  wp_walk using NK t1,NK t2
  exact⟨_,rfl,h⟩
section
variable {prog:Mc}{w:MU}{A:MY}{E:LM->LP->Prop}{s:LP}
theorem yq (h1:s.heap.IsTuple p xs) (h2:s.heap.IsTuple q ys)
  (K:∀h',Qr h' (s.heap.objs.size+4) (s.heap.objs.size+2) (s.heap.objs.size+3) .none->OB h' (s.heap.objs.size+2) (.ref s.heap.objs.size) (.ref (s.heap.objs.size+1))->OB h' (s.heap.objs.size+3) .none .none->h'.IsTupleIter s.heap.objs.size p 0->h'.IsTupleIter (s.heap.objs.size+1) q 0->(∀c o,s.heap.get? c=some o->h'.get? c=some o)->Q (.ref (s.heap.objs.size+4)) { s with heap:=h' }) :
  wpAny (model prog w) A (call (.type "zip") [.ref p,.ref q]) Q E s:=by
 refine callType_new F.called_zip (by decide) (F.typeCall_zip_2 _ _) (F.newCall_zip_2 _ _) (fun obj=>F.args_object_init_3 obj _ _) F.entry_zip_new (v8 p q xs ys) ⟨h1,h2,?_⟩
 have e1:(zh1 s.heap p).objs.size=s.heap.objs.size+1:=NT ..
 have e2:(zh2 s.heap p q).objs.size=s.heap.objs.size+2:=(NT ..).trans (by rw[e1])
 have e3:(zh3 s.heap p q).objs.size=s.heap.objs.size+3:=(NT ..).trans (by rw[e2])
 have e4:(zh4 s.heap p q).objs.size=s.heap.objs.size+4:=(NT ..).trans (by rw[e3])
 have o5:(zh5 s.heap p q).get? (zh4 s.heap p q).objs.size=some _:=LN _ rfl
 have o4:(zh5 s.heap p q).get? (zh3 s.heap p q).objs.size=some _:=ox _ (LN _ rfl)
 have o3:(zh5 s.heap p q).get? (zh2 s.heap p q).objs.size=some _:=ox _ (ox _ (LN _ rfl))
 have o2:(zh5 s.heap p q).get? (zh1 s.heap p).objs.size=some _:=ox _ (ox _ (ox _ (LN _ rfl)))
 have o1:(zh5 s.heap p q).get? s.heap.objs.size=some _:=ox _ (ox _ (ox _ (ox _ (LN _ rfl))))
 have kp:∀c o,s.heap.get? c=some o->(zh5 s.heap p q).get? c=some o:=fun c o x=>ox _ (ox _ (ox _ (ox _ (ox _ x))))
 show _/\_
 rw[e2,e3,e4] at o5
 rw[e1,e2] at o3
 rw[e3] at o4
 rw[e1] at o2
 rw[e4]
 exact⟨⟨_,o5,rfl⟩,K _ o5 o3 o4 ⟨_,o1,rfl,rfl⟩ ⟨_,o2,rfl,rfl⟩ kp⟩
end
noncomputable def Izt (K:gV) (a b:Addr):It:=
 ⟨fun i H=>∃xs ys x y,SqT K H a xs/\SqT K H b ys/\xs[i]?=some x/\ys[i]?=some y,
  fun i H x H'=>∃p v w,x=.ref p/\H p=none/\(∀xs,SqT K H a xs->xs[i]?=some v)/\(∀ys,SqT K H b ys->ys[i]?=some w)/\H'=upd H p (.tup [v,w]),
  fun i H=>∃xs ys,SqT K H a xs/\SqT K H b ys/\(xs.length<=i\/ys.length<=i)⟩
noncomputable def D1 (z TI TO i1 i2 a b:Addr) (i:Nat) (h:Heap):Prop:=
 Qr h z TI TO .none/\OB h TI (.ref i1) (.ref i2)/\(∃x y,OB h TO x y)/\h.IsTupleIter i1 a i/\h.IsTupleIter i2 b i/\a≠TO/\b≠TO
theorem m_ {z TI TO i1 i2 a b:Addr} (A:ZA z TI TO i1 i2) (st:D1 z TI TO i1 i2 a b i h) (ha:h.IsTuple a xs) (hb:h.IsTuple b ys):QB z TI TO i1 i2 a b:=by
 obtain⟨hz,hTI,⟨x,y,hTO⟩,h1,h2,na,nb⟩:=st
 have cl:∀{l:Addr} {vs:Array LM},h.IsTuple l vs->l≠z/\l≠i1/\l≠i2:=fun{l vs} hl=>by
  obtain⟨oa,qa,ca,_⟩:=hl
  obtain⟨o1,q1,c1,_⟩:=h1
  obtain⟨o2,q2,c2,_⟩:=h2
  grind
 obtain⟨a1,a3,a4⟩:=cl ha
 obtain⟨b1,b3,b4⟩:=cl hb
 exact⟨A.TIz,A.TOz,A.i1z,A.i2z,A.TITO,A.TIi1,A.TIi2,A.TOi1,A.TOi2,A.i12,a1,na,a3,a4,b1,nb,b3,b4⟩
theorem zi {P:Mc}{w:MU}{K:gV}{elts:List Expr}{k:Nat}{pos:Pos}{a b z TI TO i1 i2:Addr} (A:ZA z TI TO i1 i2):Turn P w K (.Tuple elts k pos) (Izt K a b) [z,TI,TO,i1,i2] z (D1 z TI TO i1 i2 a b) where
 mem:=by simp
 obj:=fun i h st c hc=>by
  obtain⟨hz,hTI,⟨x,y,hTO⟩,⟨o1,q1,_,d1⟩,⟨o2,q2,_,d2⟩,_⟩:=st
  simp only[LR,M6,or_false] at hc
  rcases hc with e | e | e | e | e<;>rw[e]
  ·exact⟨_,hz,fun v q=>nomatch q⟩
  ·exact⟨_,hTI,fun v q=>nomatch q⟩
  ·exact⟨_,hTO,fun v q=>nomatch q⟩
  ·exact⟨o1,q1,fun v y=>by rw[d1] at y;cases y⟩
  ·exact⟨o2,q2,fun v y=>by rw[d2] at y;cases y⟩
 keep:=fun i h h' st kk=>by
  obtain⟨hz,hTI,⟨x,y,hTO⟩,h1,h2,na,nb⟩:=st
  exact⟨kk z (by simp) _ hz,kk TI (by simp) _ hTI,⟨x,y,kk TO (by simp) _ hTO⟩,h1.at fun o q=>kk i1 (by simp) o q,h2.at fun o q=>kk i2 (by simp) o q,na,nb⟩
 item:=by
  intro X hP hw hK hc i pins s σ H E I hf st hg
  subst hP hw hK
  obtain⟨xs,ys,x,y,hq,hr,hx,hy⟩:=hg
  obtain⟨its,rv,p,hz⟩:=I.tuple hq
  obtain⟨jts,rw',p',hz'⟩:=I.tuple hr
  have pt:s.heap.IsTuple a its.toArray:=p
  have pt':s.heap.IsTuple b jts.toArray:=p'
  obtain⟨u,hu,ru⟩:=rv.get hx
  obtain⟨u',hu',ru'⟩:=rw'.get hy
  have D:=m_ A st pt pt'
  obtain⟨z1,z2,⟨t1,t2,z3⟩,z4,z5,na,nb⟩:=st
  refine zd D z1 z2 z3 z4 z5 pt pt' (x:=u) (y:=u') (by simpa using hu) (by simpa using hu') fun h1 a1 a2 a3 a4 a5 a6 k1=>?_
  refine⟨_,rfl,wpAny_letOwnedTupleGo_zip a1 fun h2 b1 b2=>?_⟩
  have lt:∀{c o},s.heap.get? c=some o->s.heap.objs.size≠c:=fun e=>NR (LI e)
  have kk:∀c o,c∉[z,TI,TO,i1,i2]->s.heap.get? c=some o->h2.get? c=some o:=fun c o hc q=>by
   simp only[LR,M6,or_false,not_or] at hc
   exact b2.extBut _ _ hc.1 (k1 c o hc.1 hc.2.2.1 hc.2.2.2.1 hc.2.2.2.2 q)
  have hn:H s.heap.objs.size=none:=I.hok.fresh (LH _)
  have hzT:s.heap.objs.size≠z:=lt z1
  have nTf:∀c∈[z,TI,TO,i1,i2],c≠s.heap.objs.size:=fun c hc=>by
   simp only[LR,M6,or_false] at hc
   rcases hc with e | e | e | e | e<;>rw[e]
   ·exact(lt z1).symm
   ·exact(lt z2).symm
   ·exact(lt z3).symm
   ·obtain⟨o,q,_⟩:=z4;exact(lt q).symm
   ·obtain⟨o,q,_⟩:=z5;exact(lt q).symm
  have hT2:kx h2 s.heap.objs.size #[u,u']:=⟨_,b2.extBut _ _ hzT a5,⟨rfl,_,rfl⟩,rfl⟩
  refine⟨.ref s.heap.objs.size,upd H s.heap.objs.size (.tup [x,y]),I.yielded (t':=s.toks) hf kk (LH _) ⟨by show 2<=sizeLine;decide,[u,u'],.cons ru (.cons ru' .nil),hT2⟩,rfl,⟨_,x,y,rfl,hn,fun l hl=>by rw[I.gE hl hq];exact hx,fun l hl=>by rw[I.gE hl hr];exact hy,rfl⟩,?_,fun c hc=>by rw[aK (nTf c hc)];exact(hf c hc).1⟩
  exact⟨b1,b2.extBut _ _ A.TIz (k1 _ _ A.TIz A.TITO A.TIi1 A.TIi2 z2),⟨_,_,b2.extBut _ _ A.TOz a2⟩,a3.extBut b2.extBut A.i1z,a4.extBut b2.extBut A.i2z,na,nb⟩
 done:=by
  intro X hP hw hK hc i pins s σ H E I hf st hg
  subst hP hw hK
  obtain⟨xs,ys,hq,hr,hx⟩:=hg
  obtain⟨its,rv,p,hz⟩:=I.tuple hq
  obtain⟨jts,rw',p',hz'⟩:=I.tuple hr
  have pt:s.heap.IsTuple a its.toArray:=p
  have pt':s.heap.IsTuple b jts.toArray:=p'
  have D:=m_ A st pt pt'
  obtain⟨z1,z2,⟨t1,t2,z3⟩,z4,z5,_⟩:=st
  have hl:=rv.length
  have hl':=rw'.length
  refine BA (I.ok.hd hc) D z1 z2 z3 z4 z5 pt pt' ?_ fun h' eb=>⟨rfl,I.lT (t':=s.toks) hf fun b u hb q=>eb b u (fun z=>hb (by simp[z])) (fun z=>hb (by simp[z])) (fun z=>hb (by simp[z])) (fun z=>hb (by simp[z])) q⟩
  rcases hx with hx | hx
  ·exact .inl (NA (by rw[Mb];lia))
  ·exact .inr (NA (by rw[Mb];lia))
 self:=fun A i s Q E st q=>Po st.1 q
noncomputable def Hi (K:gV) (ta:TA):TI:=fun σ H R=>ta σ H fun vs H1=>∃a b,vs=[.ref a,.ref b]/\(((∃xs,SqL K H1 a xs)/\(∃ys,SqL K H1 b ys)/\R (Izl K a b) H1)\/((∃xs,SqT K H1 a xs)/\(∃ys,SqT K H1 b ys)/\R (Izt K a b) H1))
theorem Dw {X:Cx}{elts:List Expr}{kt:Nat}{tp p pos:Pos}{l m:Expr}{ta:TA} (hg:Gl X "zip") (hm:X.mg "zip" = none) (hl:PA X [l,m] ta) (hs:starEach [l,m] X.env=(false,eval l X.env)::starEach [m] X.env:=by rfl) (hp:(backTo pos (starEach [m] X.env)).any (·.1)=false:=by rfl) :
  PI X (.Tuple elts kt tp) (.Call (.Name "zip" p) [l,m] [] pos) (Hi X.K ta):=by
 intro pins s σ H R I h
 refine Call_ (jh I hg hm PyProof.Rows.boot_zip (Nr (thn (hl pos pins s σ H _ I h) fun us s1 ⟨vs,H1,I1,r1,q1⟩=>?_) hs hp))
 obtain⟨a,b,e1,q⟩:=q1
 subst e1
 obtain⟨u1,u2,rfl,rv,rw'⟩:∃u1 u2,us=[u1,u2]/\RelV (.ref a) u1/\RelV (.ref b) u2:=by
  cases r1 with
  | cons p q=>
   cases q with
   | cons p' q'=>
    cases q'
    exact⟨_,_,rfl,p,p'⟩
 cases rv
 cases rw'
 have ne:∀n i j:Nat,i≠j->n+i≠n+j:=by intro n i j h;lia
 have ap:ZA (s1.heap.objs.size+4) (s1.heap.objs.size+2) (s1.heap.objs.size+3) s1.heap.objs.size (s1.heap.objs.size+1):=⟨ne _ 2 4 (by decide),ne _ 3 4 (by decide),ne _ 0 4 (by decide),ne _ 1 4 (by decide),ne _ 2 3 (by decide),ne _ 2 0 (by decide),ne _ 2 1 (by decide),ne _ 3 0 (by decide),ne _ 3 1 (by decide),ne _ 0 1 (by decide)⟩
 have fp:∀c∈[s1.heap.objs.size+4,s1.heap.objs.size+2,s1.heap.objs.size+3,s1.heap.objs.size,s1.heap.objs.size+1],jf X pins H1 c:=by
  intro c hc
  have hb':s1.heap.objs.size<=c:=by
   simp only[LR,M6,or_false] at hc
   rcases hc with e | e | e | e | e<;>rw[e]
   ·exact Om _ _
   ·exact Om _ _
   ·exact Om _ _
   ·exact LH _
   ·exact Om _ _
  exact I1.Bq hb' (I1.hok.fresh hb')
 rcases q with⟨⟨xs,hq⟩,⟨ys,hr⟩,q⟩ | ⟨⟨xs,hq⟩,⟨ys,hr⟩,q⟩
 ·obtain⟨its,rv,pl,hz⟩:=I1.list hq
  obtain⟨jts,rw',pl',hz'⟩:=I1.list hr
  refine call_zip_2 pl.isList pl'.isList fun h2 y1 y2 y3 y4 y5 hsz kp=>Po (s:={ s1 with heap:=h2 }) y1 ?_
  exact⟨s1.heap.objs.size+4,_,_,_,H1,rfl,I1.kept (t':=s1.toks) kp,yE (a:=a) (b:=b) ap,⟨y1,y2,⟨_,_,y3⟩,y4,y5⟩,fp,q⟩
 ·obtain⟨its,rv,pl,hz⟩:=I1.tuple hq
  obtain⟨jts,rw',pl',hz'⟩:=I1.tuple hr
  have pt:s1.heap.IsTuple a its.toArray:=pl
  have pt':s1.heap.IsTuple b jts.toArray:=pl'
  have la:a<s1.heap.objs.size:=pl.lt
  have lb:b<s1.heap.objs.size:=pl'.lt
  refine yq pt pt' fun h2 y1 y2 y3 y4 y5 kp=>Po (s:={ s1 with heap:=h2 }) y1 ?_
  refine⟨s1.heap.objs.size+4,_,_,_,H1,rfl,I1.kept (t':=s1.toks) kp,zi (a:=a) (b:=b) ap,⟨y1,y2,⟨_,_,y3⟩,y4,y5,?_,?_⟩,fp,q⟩
  ·exact LZ (Ma la (Om _ _))
  ·exact LZ (Ma lb (Om _ _))
end L2
namespace L2.FE
open PySem PySem.Spec PyProof.Rows
section
variable {X:Cx}{g:GG}{ε:EE}{K:gV}
noncomputable def Ae:List D->Hh->R Src
 | [.frl ds,.frl es],h=>.ok (.snap (gq ds es)) h
 | [.tup ds,.tup es],h=>.ok (.snap (gq ds es)) h
 | _,_=>.bad
noncomputable def t5 (a:MA):MI:=fun env h=>(a env h).bind Ae
theorem uW {α:List Addr}{H:Hp}{a b:Addr}{ds es:List D}{vs ws:List V} (hq:H a=some (.tup vs)) (rs:ax K g α H ds vs) (hq':H b=some (.tup ws)) (rs':ax K g α H es ws):Reads K g (Izt K a b) (Src.snap (gq ds es)).rdr α H:=by
 intro α2 H2 h2 x2 hr i
 have hq2:SqT K H2 a vs:=SqT.of (x2.tup _ _ hq)
 have hq2':SqT K H2 b ws:=SqT.of (x2.tup _ _ hq')
 have rs2:=rs.ext x2
 have rs2':=rs'.ext x2
 show match some (gq ds es)[i]? with | none=>True | some none=>_ | some (some d)=>_
 rw[mN]
 cases e:ds[i]? with
 | none=>
  have:ds.length<=i:=Mv.mp e
  exact⟨vs,ws,hq2,hq2',.inl (by rw[<- rs.length];lia)⟩
 | some d=>
  cases e':es[i]? with
  | none=>
   have:es.length<=i:=Mv.mp e'
   exact⟨vs,ws,hq2,hq2',.inr (by rw[<- rs'.length];lia)⟩
  | some d'=>
   obtain⟨v,ev,rv⟩:=rs2.get e
   obtain⟨v',ev',rv'⟩:=rs2'.get e'
   refine⟨⟨vs,ws,v,v',hq2,hq2',ev,ev'⟩,fun x H' y=>?_⟩
   obtain⟨p,u,u',e1,hp,e2,e2',e3⟩:=y
   subst e1 e3
   have:=e2 vs hq2
   rw[ev] at this
   cases this
   have:=e2' ws hq2'
   rw[ev'] at this
   cases this
   exact wa hr rv rv' hp
theorem wC {elts:List Expr}{kt:Nat}{tp p pos:Pos}{e e':Expr}{ma:MA} (hg:Gl X "zip") (hm:X.mg "zip" = none) (he:PA X [e,e'] (tMA X.K g ε ma)) (hs:starEach [e,e'] X.env=(false,eval e X.env)::starEach [e'] X.env:=by rfl) (hp:(backTo pos (starEach [e'] X.env)).any (·.1)=false:=by rfl):PI X (.Tuple elts kt tp) (.Call (.Name "zip" p) [e,e'] [] pos) (tMI X.K g ε (t5 ma)):=
 PI.imp (Dw hg hm he hs hp) fun σ H T ⟨α,env,h,s,w⟩=>tMA.use s w.bind fun d1 h1 v1 H1 α1 e1 s1 r1 w1=>by
  unfold Ae at w1
  split at w1
  ·cases r1 with
   | cons ra rr=>
    cases rr with
    | cons rb rr=>
     cases rr
     cases ra with
     | frl hq rs=>
      cases rb with
      | frl hq' rs'=>exact⟨_,_,rfl,.inl ⟨⟨_,hq.sq⟩,⟨_,hq'.sq⟩,w1 _ H1 α1 e1 s1.heap (yX hq.fro rs hq'.fro rs')⟩⟩
  ·cases r1 with
   | cons ra rr=>
    cases rr with
    | cons rb rr=>
     cases rr
     cases ra with
     | tup hq rs=>
      cases rb with
      | tup hq' rs'=>exact⟨_,_,rfl,.inr ⟨⟨_,SqT.of hq⟩,⟨_,SqT.of hq'⟩,w1 _ H1 α1 e1 s1.heap (uW hq rs hq' rs')⟩⟩
  ·exact w1.elim
end
theorem jq (ok:HOk P w H h) (e:H p=some (AtO p o)):h.get? p=some o:=(show cL P w H h p (AtO p o) from ok p _ e).1
theorem kc {rest:List Expr}:starEach (.Name a b::rest) env=(false,eval (.Name a b) env)::starEach rest env:=by rfl
theorem y_:backTo pos ((false,t)::r)=(false,t)::backTo pos r:=rfl
theorem k6 {env:Env}{pos:Pos}{x:Str}{p2:Pos}:∀qs:List (Str × Pos),(backTo pos (starEach (qs.map (fun y=>Rr y.1 y.2)++[.Name x p2]) env)).any (·.1)=false
 | []=>by rfl
 | q::qs=>by
  rw[LW,Ng,kc,y_,N1,k6 qs];rfl
section
variable {P:Mc}{w:MU}{K:gV}{mg:Str->Option LM}{base:Heap}{H:Hp}{clos:List (Str × Addr)}{scope:Pg}{env:Env}{A:MY}{E:LM->LP->Prop}{s:LP}{m:Str->Option LM}
theorem pF {x:Str}{p2 pos:Pos}{u:LM} (hs:env.scope.kind=.function) (hcl:env.cells=clos) (hok:HOk P w H s.heap) (hx:env.kindOf x=some .local) (hxd:(x == ("__debug__" : Str))=false) (hn:s.heap.Ns env.locals m) (hm:m x=some u) :
  ∀(qs:List (Str × Pos)) (vs:List V) (Q:List LM->LP->Prop),jM H clos (qs.map (·.1)) vs->(∀y∈qs.map (·.1),env.kindOf y=some .free/\(y == ("__debug__" : Str))=false/\(y == ("__classdict__" : Str))=false) →
   (∀us,Vals vs us->Q (us++[u]) s)->wpAny (model P w) A (spliced (backTo pos (starEach (qs.map (fun y=>Rr y.1 y.2)++[.Name x p2]) env))) Q E s
 | [],_,Q,.nil,_,h=>by
  exact PU (Qp (Pq hs hx hn hm (Calls.spliced_nil (h [] .nil))) hxd)
 | q::qs,_,Q,.cons ⟨c,o,z,hl,hc,hd,r⟩ t,hf,h=>by
  obtain⟨f1,f2,f3⟩:=hf q.1 (by simp)
  refine PU (Qp (wpAny_loadName_free hs f1 (by simp_all) ⟨o,jq hok hc,hd⟩ ?_ f3) f2)
  exact pF hs hcl hok hx hxd hn hm qs _ _ t (fun y hy=>hf y (by simp_all)) fun us r2=>h (z::us) (.cons r r2)
end
theorem CU {K:gV}
  (F:dI P w K mg base CX0 k f fd ps sp) (hkp:M5 K (.ref f)=true) (hb:Binds K fd ps []) (hm:mg fn=some (.ref f)) (T:uy fn x qual ys params body scope)
          (hr:eP (k+1) A) (e0:yF P w K mg base A outer s H)
  (hp:H p=some (AtO p (NG "<lambda>" qual params body scope clos pm c' ctv))) (hc:H c'=some (AtO c' oc)) (hd:oc.data=.fields vc) (hv:vc[1]?=some (.str qual t)) (cs:jM H clos ys cv) (rv:RelV v u)
  (h:sp (cv++[v]) H Q E1):codeAny (model P w) A (.call (.ref p) ⟨[u],[]⟩) (CR CX0 outer P w H s Q E) s:=by
 refine PySem.W.kla_callFunE hr.depth (jq e0.hok hp) rfl T.co T.gen rfl ⟨c',oc,vc,t,rfl,jq e0.hok hc,hd,hv⟩ ?_
 rw[T.bind]
 refine LJ (OH T.ES (by intro y hy;simp at hy;subst hy;exact T.loc) (fun h₁ hns hsb=>?_) T.kind)
 have keep1:=fun b o e=>hsb.extBut b o (LZ (LI e)) (ox _ e)
 refine⟨(e0.mod.nolimit.keeps fun b o e=>(e0.bs b o e).1).keeps keep1,?_⟩
 refine PySem.W.kla_codeExpr ?_
 obtain⟨p0,p2,p3,qs,rfl,rfl⟩:=T.tx
 have KX:=(e0.mod.kin.keeps fun b o e=>(e0.bs b o e).1).keeps keep1
 have hok1:=e0.hok.kept keep1
 refine OW (OF T.kind T.glob (Calls.loadGlobal_global ((e0.mod.glob.keeps fun b o e=>(e0.bs b o e).1).keeps keep1) hm ?_) T.nd.1)
 have hL:frs (Nm qual scope s.heap.objs.size p (.ref c') clos::outer)=s.heap.objs.size::frs outer:=rfl
 have sz:s.heap.objs.size<=h₁.objs.size:=by
  by_cases z:s.heap.objs.size=0
  ·lia
  ·exact Qi hns.lt
 have e1:yF P w K mg base (A.deeper (Nm qual scope s.heap.objs.size p (.ref c') clos)) (Nm qual scope s.heap.objs.size p (.ref c') clos::outer) { s with heap:=h₁,toks:=s.toks+1 } H:=
  ⟨MY.frames_deeper e0.frames,e0.mod,fun b o e=>⟨keep1 b o (e0.bs b o e).1,(e0.bs b o e).2⟩,L0 e0.bsz sz,
   Heap.FunFrames.cons (by show scope.kind≠_;rw[T.kind];decide) rfl hns (Heap.get?_none_of_le e0.bsz) (Heap.FunFrames.of_keeps (fun b o e _=>⟨o,keep1 b o e,rfl⟩) e0.lh),
   fun b hb'=>by
    rcases LR.mp hb' with z | z
    ·rw[z];exact e0.hok.fresh (LH _)
    ·exact e0.frf b z,hok1,e0.bare⟩
 have fin:∀us:List LM,Vals cv us->wpAny (model P w) (A.deeper (Nm qual scope s.heap.objs.size p (.ref c') clos)) (call (.ref f) ([]++(us++[u]))) (fun z s'=>CR CX0 outer P w H s Q E (.ok (.ret z)) s')
   (fun e' s'=>wpAny (model P w) (A.deeper (Nm qual scope s.heap.objs.size p (.ref c') clos)) (leaving (Nm qual scope s.heap.objs.size p (.ref c') clos) e') (fun _ s''=>CR CX0 outer P w H s Q E (.error e') s'') (fun e'' s''=>CR CX0 outer P w H s Q E (.error e'') s'') s') { s with heap:=h₁,toks:=s.toks+1 }:=fun us r2=>by
  have rr:=r2.append (.cons rv .nil)
  have hl:(us++[u]).length=ps.length:=by rw[<- rr.length];exact F.len _ _ _ _ h
  have hb2:=hb { s with heap:=h₁,toks:=s.toks+1 } (us++[u]) KX (by simp_all)
  rw[NF] at hb2
  refine QJ (Of (F.run _ _ _ H ⟨us++[u],[]⟩ (us++[u]) (cv++[v]) Q E1 (hr.deeper _) e1 hb2 rr h) fun r s' hq=>?_)
  cases r with
  | error e=>exact Px hq
  | ok fl=>
   cases fl with
   | ret z=>
    obtain⟨y,H',os,bare,un,hok,r,q⟩:=(show CE _ P w H _ Q z s' from hq)
    have old:∀{b:Addr} {o:Obj},s.heap.get? b=some o->b∉frs outer->b∉frs (Nm qual scope s.heap.objs.size p (.ref c') clos::outer):=fun{b o} e n z=>by
     rcases LR.mp z with z | z
     ·exact absurd (LI e) (by simp_all)
     ·exact n z
    exact⟨y,H',os,bare,⟨fun b o e n hb' hx=>un.keep b o (keep1 b o e) n (old e hb') hx,fun b o e n hb' hx=>un.slot b o (keep1 b o e) n (by simp_all) hx,fun b o e n hx=>un.free b o (keep1 b o e) n hx,fun b o e hx=>un.there b o (keep1 b o e) hx,un.jB,un.ky,un.mJ⟩,hok,r,q⟩
   | next=>assumption
   | brk=>assumption
   | cont=>assumption
 have main:=pF (env:=Nm qual scope s.heap.objs.size p (.ref c') clos) (A:=A.deeper (Nm qual scope s.heap.objs.size p (.ref c') clos)) (s:={ s with heap:=h₁,toks:=s.toks+1 }) (x:=x) (p2:=p2) (pos:=p3) (u:=u)
  (E:=fun e' s'=>wpAny (model P w) (A.deeper (Nm qual scope s.heap.objs.size p (.ref c') clos)) (leaving (Nm qual scope s.heap.objs.size p (.ref c') clos) e') (fun _ s''=>CR CX0 outer P w H s Q E (.error e') s'') (fun e'' s''=>CR CX0 outer P w H s Q E (.error e'') s'') s')
  T.kind rfl hok1 T.loc T.nd.2 hns (by simp) qs cv (fun us s2=>K.In s2.heap/\wpAny (model P w) (A.deeper (Nm qual scope s.heap.objs.size p (.ref c') clos)) (call (.ref f) ([]++us)) (fun z s'=>CR CX0 outer P w H s Q E (.ok (.ret z)) s')
   (fun e' s'=>wpAny (model P w) (A.deeper (Nm qual scope s.heap.objs.size p (.ref c') clos)) (leaving (Nm qual scope s.heap.objs.size p (.ref c') clos) e') (fun _ s''=>CR CX0 outer P w H s Q E (.error e') s'') (fun e'' s''=>CR CX0 outer P w H s Q E (.error e'') s'') s') s2) cs T.free fun us r2=>⟨KX,fin us r2⟩
 cases qs with
 | nil=>exact PV (h₀:=h₁) KX hkp main kc rfl
 | cons q qs=>exact PV (h₀:=h₁) KX hkp main kc (k6 qs)
noncomputable def gk (tab:Str->Option (Nat × MF)) (f:ME) (a:MA):ME:=fun env h=>(f env h).bind fun d h1=>match d with
 | .clo x ds=>match tab x with
  | some (np,m)=>if ds.length+1=np then (a env h1).bind fun es h2=>m (ds++es) h2 else .bad
  | none=>.bad
 | _=>.bad
theorem jJ {X:Cx}{g:GG}{k:Nat}{tab:Str->Option (Nat × MF)}{fe e:Expr}{pos:Pos}{mf:ME}{mr:MA}
  (T:∀x np m,tab x=some (np,m)->∃f fd ps,X.mg x=some (.ref f)/\dI X.prog X.w X.K X.mg X.base CX0 k f fd ps (spM X.K g np m)/\M5 X.K (.ref f)=true/\Binds X.K fd ps [])
  (hr:eP (k+1) X.A) (hf:PE X fe (tM X.K g E00 mf)) (ha:PA X [e] (tMA X.K g E00 mr)) (hlen:∀env h ds h',mr env h=.ok ds h'->ds.length=1)
  (hc:eval (.Call fe [e] [] pos) X.env=(do callWith pos (← eval fe X.env) [] (backTo pos (starEach [e] X.env)) (backToKw pos (keywordEach [] X.env))):=by rfl)
  (he:starEach [e] X.env=(false,eval e X.env)::starEach [] X.env:=by rfl) :
  PE X (.Call fe [e] [] pos) (tM X.K g E00 (gk tab mf mr)):=by
 intro pins s σ H Q I ⟨α,env,h,s0,w⟩
 refine Call_ (thn (hf pins s σ H (fun v H1=>∃α1 h1 p o clos ys cv c' oc qual t vc x ds np m,v=.ref p/\H1 p=some (AtO p o)/\DQ x clos ys o c' qual/\H1 c'=some (AtO c' oc)/\oc.data=.fields vc/\vc[1]?=some (.str qual t)/\jM H1 clos ys cv/\ax X.K g α1 H1 ds cv ∧
   tab x=some (np,m)/\ds.length+1=np/\c_ X.K g α1 H1 env σ h1/\WQ X.K g E00 α1 H1 ((mr env h1).bind fun es h2=>m (ds++es) h2) (aR X.K g α1 H1 Q)) I ?_) fun v s1 ⟨x,H1,I1,r1,q1⟩=>?_) hc
 ·refine tM.use s0 w.bind fun d1 h1 v1 H1 α1 e1 s1 r1 w1=>?_
  cases r1 with
  | @clo x ds p o clos ys vs c' oc qual t vc hp hl hc' hd hv cs rs=>
   simp only at w1
   cases et:tab x with
   | none=>rw[et] at w1;exact w1.elim
   | some q=>
    obtain⟨np,m⟩:=q
    rw[et] at w1
    obtain⟨hn,w1⟩:=WQ.eT w1
    exact⟨α1,h1,p,o,clos,ys,vs,c',oc,qual,t,vc,x,ds,np,m,rfl,hp,hl,hc',hd,hv,cs,rs,et,hn,s1,WQ.post e1 w1⟩
  | _=>exact w1.elim
 ·obtain⟨α1,h1,p,o,clos,ys,cv,c',oc,qual,t,vc,x,ds,np,m,rfl,hp,⟨params,body,scope,pm,ctv,xa,rfl,tx⟩,hc',hd,hv,cs,rs,et,hn,s2,w2⟩:=q1
  cases r1
  obtain⟨f,fd,ps,hm,F,hk,hb⟩:=T x np m et
  have fn:∀{h:Heap},h.get? p=some (NG "<lambda>" qual params body scope clos pm c' ctv)->PySem.W.FnAt p h:=fun e=>⟨_,_,_,_,e⟩
  refine PySem.W.callWith_F (fn (jq I1.hok hp)) (thn (ha pos pins s1 σ H1 (fun vs H2=>∃v,vs=[v]/\H2 p=some (AtO p (NG "<lambda>" qual params body scope clos pm c' ctv))/\H2 c'=some (AtO c' oc)/\jM H2 clos ys cv/\spM X.K g np m (cv++[v]) H2 Q E0) I1 ?_) fun us s3 ⟨vs,H2,I2,r,v,ev,hp2,hc2,cs2,q⟩=>⟨fn (jq I2.hok hp2),?_⟩) he rfl
  ·refine⟨α1,env,h1,s2,w2.bind.mono fun es h3 eq w3 v3 H3 α3 e3 hr3 r3=>?_⟩
   have l1:=hlen env h1 es h3 eq
   obtain⟨d,rfl⟩:∃d,es=[d]:=List.length_eq_one_iff.mp l1
   cases r3 with
   | @cons _ v _ _ rd rn=>
    cases rn
    refine⟨v,rfl,e3.frz _ _ _ hp,e3.frz _ _ _ hc',L2.Paired.rB cs fun _ _ ⟨c,o,u,l,a,b⟩=>⟨c,o,u,l,e3.frz _ _ _ a,b⟩,?_,α3,ds++[d],h3,(rs.ext e3).append (.cons rd .nil),hr3,w3.post e3⟩
    rw[Mn,<- rs.length];exact hn
  ·subst ev
   cases r with
   | @cons _ u _ _ ru rn=>
    cases rn
    refine QJ (Of (CU F hk hb hm tx (E:=E0) hr I2.Ji hp2 hc2 hd hv cs2 ru q) fun r s' hq=>?_)
    cases r with
    | error e=>exact Px hq
    | ok fl=>
     cases fl with
     | ret u=>exact I2.after hq
     | next=>assumption
     | brk=>assumption
     | cont=>assumption
open Classical in
noncomputable def mkH (S:Addr->Prop) (h2:Heap) (PT:Addr) (T:Array LM) (H1:Hp):Hp:=fun b=>if S b then (h2.get? b).map (AtO b) else if b=PT then some (.tbl T) else H1 b
structure MkS (P) (w) (S:Addr->Prop) (h1 h2:Heap) (PT) (ps more) (H1):Prop where
 hok:HOk P w H1 h1
 hPT:H1 PT=some (.tbl ps)
 k:∀b o,b≠PT->h1.get? b=some o->h2.get? b=some o
 hT:h2.get? PT=some (OM (ps++more))
 hS:∀b,S b->b≠PT/\(∃o,h2.get? b=some o)/\(H1 b=none\/∃o,H1 b=some (AtO b o))
section
variable {P:Mc}{w:MU}{S:Addr->Prop}{h0 h1 h2:Heap}{PT:Addr}{ps more:Array LM}{H H1:Hp}{K:gV}{g:GG}{α:List Addr}{h:Hh}{fs:List Addr}
theorem MkS.at_ (M:MkS P w S h1 h2 PT ps more H1) (hb:S b) (e:h2.get? b=some o):mkH S h2 PT (ps++more) H1 b=some (AtO b o):=by
 unfold mkH;simp_all
theorem MkS.pt (M:MkS P w S h1 h2 PT ps more H1):mkH S h2 PT (ps++more) H1 PT=some (.tbl (ps++more)):=by
 unfold mkH;rw[if_neg fun z=>(M.hS PT z).1 rfl,if_pos rfl]
theorem MkS.off (M:MkS P w S h1 h2 PT ps more H1) (e:H1 b=some o) (n:b≠PT):mkH S h2 PT (ps++more) H1 b=some o:=by
 by_cases hb:S b
 ·obtain⟨_,⟨o2,e2⟩,z | ⟨o1,z⟩⟩:=M.hS b hb
  ·simp_all
  ·rw[e] at z;cases z
   have e1:=M.k b o1 n (jq M.hok e)
   exact M.at_ hb e1
 ·unfold mkH;simp_all
theorem MkS.non (M:MkS P w S h1 h2 PT ps more H1) (e:H1 b=none) (n:¬ S b):mkH S h2 PT (ps++more) H1 b=none:=by
 unfold mkH;rw[if_neg n,if_neg (br M.hPT e).symm];exact e
theorem MkS.J0 (M:MkS P w S h1 h2 PT ps more H1):HOk P w (mkH S h2 PT (ps++more) H1) h2:=by
 intro b u e
 by_cases hb:S b
 ·obtain⟨_,⟨o2,e2⟩,_⟩:=M.hS b hb
  rw[M.at_ hb e2] at e
  cases e
  exact⟨e2,e2,⟨o2,e2⟩,fun a c x y=>y _ x⟩
 ·by_cases hp:b=PT
  ·subst hp
   rw[M.pt] at e
   cases e
   exact M.hT
  ·have e1:H1 b=some u:=by unfold mkH at e;simp_all
   refine(M.hok b u e1).kj (fun c x hc hx=>M.k c x ?_ hx) (fun c z=>M.off z fun q=>?_) fun c xs z=>M.off z fun q=>?_
   ·rcases hc with rfl | hc
    ·exact hp
    ·rintro rfl;rw[M.hPT] at hc;cases hc
   ·subst q;rw[M.hPT] at z;cases z
   ·subst q;rw[M.hPT] at z;cases z
theorem MkS.un (M:MkS P w S h1 h2 PT ps more H1) (u:Un fs [] H H1 h0 h1) (hn:∀b,S b->h0.objs.size<=b\/H1 b≠none):Un fs [] H (mkH S h2 PT (ps++more) H1) h0 h2:=by
 have nt:=fun b o e n=>(br M.hPT (u.free b o e n (by simp))).symm
 refine⟨fun b o e n hf hx=>M.k b o (nt b o e n) (u.keep b o e n hf hx),fun b o e n hf hx=>?_,fun b o e n hx=>?_,fun b o e hx=>?_,fun b xs e=>M.off (u.jB b xs e) fun z=>?_,fun b o x e=>M.off (u.ky b o x e) fun z=>?_,fun b qs e=>?_⟩
 ·obtain⟨sl,e1⟩:=u.slot b o e n hf hx
  exact⟨sl,M.k b _ (nt b o e n) e1⟩
 ·have z:=u.free b o e n hx
  refine M.non z fun hb=>?_
  rcases hn b hb with q | q
  ·exact absurd (LI e) (Pz.mpr q)
  grind
 ·obtain⟨o1,e1⟩:=u.there b o e hx
  by_cases z:b=PT
  ·exact⟨_,z ▸ M.hT⟩
  ·exact⟨o1,M.k b o1 z e1⟩
 ·have:=u.jB b xs e;rw[z,M.hPT] at this;grind
 ·have:=u.ky b o x e;rw[z,M.hPT] at this;grind
 ·obtain⟨m1,e1⟩:=u.mJ b qs e
  by_cases z:b=PT
  ·subst z
   rw[M.hPT] at e1
   cases e1
   exact⟨m1++more,by rw[M.pt,Array.append_assoc]⟩
  ·exact⟨m1,M.off e1 z⟩
theorem MkS.ext (M:MkS P w S h1 h2 PT ps more H1):Ext K α H1 α (mkH S h2 PT (ps++more) H1):=
 ⟨⟨OO _,fun p xs e=>M.off e (fun z=>by rw[z,M.hPT] at e;cases e),fun p o x e=>M.off e (fun z=>by rw[z,M.hPT] at e;cases e),fun p qs e=>by
  by_cases z:p=PT
  ·subst z
   rw[M.hPT] at e;cases e
   exact⟨more,M.pt⟩
  ·exact⟨#[],by rw[M.off e z];simp⟩⟩,fun p o e _ t=>M.off e (fun z=>by rw[z,M.hPT] at e;grind),fun _ z n=>absurd z n⟩
theorem MkS.KA (M:MkS P w S h1 h2 PT ps more H1) (r:aU K g α H1 h){ns:Pos × Str} (uq:∀f q,jN K f=some q->q.1=PT->q.2=ns) (t:tD (mkH S h2 PT (ps++more) H1) (PT,ns)):aU K g α (mkH S h2 PT (ps++more) H1) h:=by
 refine⟨r.len,r.inj,fun n p o a b=>(r.here n p o a b).ex0 M.ext.toEx0 fun x e=>M.off e fun z=>?_,fun f q e=>?_⟩
 ·obtain⟨u,e1,_,_,nt⟩:=r.mem (Ms a)
  rw[z,M.hPT] at e1;cases e1;exact nt _ rfl
 ·by_cases z:q.1=PT
  ·have:=uq f q e z
   cases z;cases this
   exact t
  ·rcases r.tab f q e with x | ⟨c',oc,vc,tk,x,hc,hd⟩
   ·exact .inl (M.off x z)
   ·exact .inr ⟨c',oc,vc,tk,M.off x z,M.off hc (fun y=>by rw[y,M.hPT] at hc;cases hc),hd⟩
end
theorem yB {h h':Heap}{mg:Str->Option LM}{PT:Addr} (k:∀b o,h.get? b=some o->h'.get? b=some o) (x:h.BuiltinsAt mg PT):h'.BuiltinsAt mg PT:=
 let ⟨bm,o,a,b,c,d,e,r⟩:=x;⟨bm,o,a,b,c,d,k _ _ e,r⟩
noncomputable def Made (X:Cx) (g:GG) (α:List Addr) (h:Hh) (H1:Hp) (s1:LP) (d:D) (u:LM) (s2:LP):Prop:=∃p H2,u=.ref p/\s2.os=s1.os/\s2.gens=s1.gens/\HOk X.prog X.w H2 s2.heap/\Un X.fs [] X.av H2 X.au.heap s2.heap/\Ext X.K α H1 α H2/\aU X.K g α H2 h/\aJ X.K g α H2 d (.ref p) ∧
 (∀b o,H1 b=none->s1.heap.get? b=some o->s2.heap.get? b=some o)/\(∀b o,s1.heap.get? b=some o->H1 b=none->(∀x c,X.env.cells.lookup x=some c->c≠b)->H2 b=none)
theorem Ac {X:Cx}{g:GG}{pins:List (Addr × Obj)}{σ:St}{H1:Hp}{s1:LP}{α:List Addr}{h:Hh}{params:Qx}{body:Expr}{scope:Pg}{pos:Pos}{clos:List (Str × Addr)}{c PT f:Addr}{lf x ql:Str}{ys:List Str}{vs:List V}{ds:List D}{E:LM->LP->Prop}
  (J:Inv X pins σ H1 s1) (hex:X.ex=[]) (hdef:defaultsOf params X.env=([],[])) (hq:X.env.qual++"<lambda>" = ql) (hcode:X.env.code=.ref c) (C:Nz X.K c PT=true) (hB:X.base.BuiltinsAt X.mg PT) (hgP:mainGlobals≠PT)
  (hmk:jN X.K f=some (PT,pos,ql)) (uq:∀f q,jN X.K f=some q->q.1=PT->q.2=(pos,ql)) (hcl:closureFor scope X.env=pure clos) (hcs:∀y c,clos.lookup y=some c->X.env.cells.lookup y=some c) (hfn:∀y,X.fn y=true)
  (T:uy lf x ql ys params body scope) (hr:aU X.K g α H1 h) (hvs:Paired (fun y v=>(∃c,clos.lookup y=some c)/\X.env.kindOf y=some .cell/\∃i:Nat,X.N[i]?=some y/\σ[i]?=some (some v)) ys vs) (rds:ax X.K g α H1 ds vs) :
  wpAny (model X.prog X.w) X.A (eval (.Lambda params body scope pos) X.env) (Made X g α h H1 s1 (.clo lf ds)) E s1:=by
 subst hq
 refine PySem.W.kla_eval hdef ?_
 have Ch:=PySem.W.codeHd_of_K J.kIn C
 have hg:=J.mod.glob.keeps J.bk
 have hb:=yB J.bk hB
 obtain⟨m,hns,hloc⟩:=J.loc
 have fin:∀(h':Heap) (tk:Tok) (c':Addr) (ctv:LM) (oc:Obj) (vc:Array LM) (t:Tok) (ps more:Array LM),H1 PT=some (.tbl ps)->(∀b o,b≠PT->s1.heap.get? b=some o->h'.get? b=some o)->s1.heap.objs.size<=h'.objs.size->h'.get? PT=some (OM (ps++more)) →
   ps++more = #[rawInt pos.line,rawInt pos.col,.ref c']->h'.get? c'=some oc->oc.data=.fields vc->vc[1]?=some (.str (X.env.qual++"<lambda>") t)->c'≠PT->((H1 c'=none/\s1.heap.objs.size<=c')\/H1 c'=some (AtO c' oc)) →
   Made X g α h H1 s1 (.clo lf ds) (.ref h'.objs.size) { s1 with heap:=h'.push (NG "<lambda>" (X.env.qual++"<lambda>") params body scope clos ((X.mg "__name__").getD .none) c' ctv),toks:=tk }:=by
  intro h' tk c' ctv oc vc t ps more hPT hk hsz hT hT2 hc hd hv hcP hc1
  have kp:∀b o,h'.get? b=some o->(h'.push (NG "<lambda>" (X.env.qual++"<lambda>") params body scope clos ((X.mg "__name__").getD .none) c' ctv)).get? b=some o:=fun b o e=>ox _ e
  have pp:(h'.push (NG "<lambda>" (X.env.qual++"<lambda>") params body scope clos ((X.mg "__name__").getD .none) c' ctv)).get? h'.objs.size=some (NG "<lambda>" (X.env.qual++"<lambda>") params body scope clos ((X.mg "__name__").getD .none) c' ctv):=LN _ rfl
  have M:MkS X.prog X.w (fun b=>b=h'.objs.size\/b=c'\/∃y,clos.lookup y=some b) s1.heap (h'.push (NG "<lambda>" (X.env.qual++"<lambda>") params body scope clos ((X.mg "__name__").getD .none) c' ctv)) PT ps more H1:=by
   refine⟨J.hok,hPT,fun b o n e=>kp b o (hk b o n e),kp _ _ hT,fun b hb=>?_⟩
   rcases hb with rfl | rfl | ⟨y,hy⟩
   ·exact⟨fun z=>absurd (LI hT) (by rw[<- z];exact MN _),⟨_,pp⟩,.inl (J.hok.fresh hsz)⟩
   ·refine⟨hcP,⟨_,kp _ _ hc⟩,?_⟩
    rcases hc1 with⟨z,_⟩ | z
    ·exact .inl z
    ·exact .inr ⟨_,z⟩
   ·have z:=J.gf y b (hcs y b hy)
    obtain⟨v,o,e,_⟩:=J.cell y b (hcs y b hy)
    have n:=(br hPT z).symm
    exact⟨n,⟨o,kp _ _ (hk b o n e)⟩,.inl z⟩
  have atp:=M.at_ (.inl rfl) pp
  have atc:=M.at_ (.inr (.inl rfl)) (kp _ _ hc)
  refine⟨h'.objs.size,_,rfl,rfl,rfl,M.J0,M.un (hex ▸ J.base) fun b hb=>?_,M.ext,M.KA hr uq (.inr ⟨c',oc,vc,t,?_,atc,hd,hv⟩),?_,fun b o n e=>kp b o (hk b o (br hPT n).symm e),fun b o e n hcc=>M.non n fun hb=>?_⟩
  ·rcases hb with rfl | rfl | ⟨y,hy⟩
   ·exact .inl (L0 J.sz hsz)
   ·rcases hc1 with⟨_,z⟩ | z
    ·exact .inl (L0 J.sz z)
    ·exact .inr (by rw[z];exact fun q=>nomatch q)
   ·exact .inl (J.ok.cab y b (hfn y) (hcs y b hy))
  ·rw[M.pt,hT2]
  ·refine .clo atp ⟨params,body,scope,_,ctv,x,rfl,T⟩ atc hd hv (L2.Paired.rB hvs fun y v ⟨⟨cc,hcc⟩,kd,i,hN,hσ⟩=>?_) (rds.ext M.ext)
   obtain⟨u,ru,lk⟩:=hloc i y v hN hσ (.inr (.inl kd))
   rcases lk with⟨z,_⟩ | ⟨_,c2,hc2,o,e,hdo⟩
   ·rw[kd] at z;cases z
   ·rw[hcs y cc hcc] at hc2
    cases hc2
    have z:=J.gf y cc (hcs y cc hcc)
    exact⟨cc,o,u,hcc,M.at_ (.inr (.inr ⟨y,hcc⟩)) (kp _ _ (hk cc o (br hPT z).symm e)),hdo,ru⟩
  ·rcases hb with rfl | rfl | ⟨y,hy⟩
   ·exact absurd (LI e) (Pz.mpr hsz)
   ·rcases hc1 with⟨_,z⟩ | z
    ·exact absurd (LI e) (Pz.mpr z)
    ·rw[n] at z;cases z
   ·exact hcc y b (hcs y b hy) rfl
 rcases hr.tab f _ hmk with hPT | ⟨c',oc,vc,t,hPT,hc,hd,hv⟩
 ·have hP:=J.hok PT _ hPT
  refine PySem.W.kla_makeFunction hcl J.ok.glob hg hcode Ch hP trivial rfl hgP hb fun c' ctv h' tk hx hge hlt hrec htb=>?_
  obtain⟨c2,oc,vc,t,z,hc,hd,hv⟩:=hrec
  cases z
  refine fin h' tk c' ctv oc vc t _ _ hPT (fun b o n e=>hx b o n e) (by lia) htb (by simp) hc hd hv (fun z=>?_) (.inl ⟨J.hok.fresh hge,hge⟩)
  exact absurd (LI hP) (by rw[<- z];exact Pz.mpr hge)
 ·have hP:=J.hok PT _ hPT
  refine PySem.W.kla_makeFunctionHit (cv:=.ref c') hcl J.ok.glob hg hcode Ch hP trivial (by simp[codeAmong,rawInt]) hb fun ctv h' tk hk hsz=>?_
  refine fin h' tk c' ctv oc vc t _ #[] hPT (fun b o n e=>hk b o e) hsz (by rw[Array.append_empty];exact hk _ _ hP) (by simp) (hk _ _ (jq J.hok hc)) hd hv (fun z=>?_) (.inr hc)
  rw[z,hPT] at hc;cases hc
theorem uh {last:Stmt}{env:Env}:∀rows:List Stmt,execs (rows++[last]) env=(execs rows env >>= fun f=>match f with
  | .next=>exec last env
  | f=>pure f)
 | []=>by
  show(exec last env >>= fun f=>match f with | .next=>pure .next | f=>pure f)=_
  refine LO ?_ (bind_pure _)
  congr 1
  grind
 | r::rows=>by
  show(exec r env >>= fun f=>match f with | .next=>execs (rows++[last]) env | f=>pure f)=((exec r env >>= fun f=>match f with | .next=>execs rows env | f=>pure f) >>= _)
  rw[bind_assoc]
  congr 1
  funext f
  cases f with
  | next=>exact uh rows
  | ret v=>rfl
  | brk=>rfl
  | cont=>rfl
theorem C5 {CX:CXT}{P:Mc}{w:MU}{K:gV}{mg:Str->Option LM}{base:Heap}{k:Nat}{f:Addr}{name qual:Str}{params:Qx}{body rows:List Stmt}{last:Stmt}{scope:Pg}{dV kV doc pm cdv ct oc:LM}{an od:Option Addr}
  {osl:Array (Option LM)} {N ps:List Str} {sp:Sp} (lk:K.lookup f=some ⟨oc,od,.func (M0 name qual params body scope dV kV doc pm an cdv ct),osl⟩) (hcd:OK K cdv qual=true) (S:aF N ps scope)
  (len:∀vs H Q E,sp vs H Q E->vs.length=ps.length) (hbd:body=rows++[last])
  (hbody:∀(A:MY) (outer:List Env) (s:LP) (H:Hp) (vs:List V) (Q:VK) (E:XK),eP k (A.deeper (envOfC qual scope s.heap.objs.size f cdv))->sp vs H Q E →
   ∃t R,PSs (jj CX P w K mg base N qual scope f cdv A outer s H E) rows t/\t { nx:=R,rt:=fun _ _=>False } (start N vs) H/\∀σ H1 s1,Inv (jj CX P w K mg base N qual scope f cdv A outer s H E) [] σ H1 s1->R σ H1 →
    wpAny (model P w) (jj CX P w K mg base N qual scope f cdv A outer s H E).A (exec last (envOfC qual scope s.heap.objs.size f cdv)) (fun fl s2=>∃u,fl=.ret u/\CE outer P w H s Q u s2) (jj CX P w K mg base N qual scope f cdv A outer s H E).xe s1) :
  dI P w K mg base CX (k+1) f (M0 name qual params body scope dV kV doc pm an cdv ct) ps sp:=by
 subst hbd
 refine⟨len,fun A outer s H args us vs Q E hr e0 hb r hsp=>?_⟩
 have hl:=len _ _ _ _ hsp
 have KX:=e0.mod.kin.keeps fun b o e=>(e0.bs b o e).1
 have lim:=e0.mod.nolimit.keeps fun b o e=>(e0.bs b o e).1
 have hkind:∀y∈ps.zip us,scope.names.lookup y.1=some .local\/(scope.names.lookup y.1=some .cell/\((cellsFrom (s.heap.objs.size+1) scope.names []).lookup y.1).isSome=true):=fun⟨n,v⟩ hy=>by
  rcases S.par n (PC hy).1 with q | q
  ·grind
  ·exact .inr ⟨q,Ov _ _ _ (.inl q)⟩
 refine codeAny_call_function hr.depth (KX _ _ lk) rfl S.co S.gen rfl (PySem.W.codeRec_of KX hcd) (hb _ _ _ _ ?_)
 refine wpAny_newFunctionEnv_cells S.kind hkind fun env he s1 x=>?_
 subst he
 refine⟨lim.keeps x.toInCall.keep,codeAny_func ?_⟩
 obtain⟨t,R,ht,hq,hlast⟩:=hbody A outer s H vs Q E (hr.deeper _) hsp
 have I:Inv (jj CX P w K mg base N qual scope f cdv A outer s H E) [] (start N vs) H s1:=pE S hr.hd e0 hl r x
 rw[uh]
 refine Nw (k3 (thn (ht [] s1 (start N vs) H _ I hq) fun fl s' hs=>?_)) (Q:=fun fl s2=>∃u,fl=Flow.ret u/\CE outer P w H s Q u s2) (fun fl s' hs=>?_) fun e s' hs=>hs
 ·cases fl with
  | next=>
   obtain⟨σ',H',J,q⟩:=hs
   exact hlast σ' H' s' J q
  | ret u=>obtain⟨_,_,_,_,_,q⟩:=hs;simp_all
  | brk=>obtain⟨_,_,_,q⟩:=hs;simp_all
  | cont=>obtain⟨_,_,_,q⟩:=hs;simp_all
 ·obtain⟨u,rfl,q⟩:=hs
  exact q
noncomputable def vH:List Nat->En->Option (List D)
 | [],_=>some []
 | i::r,e=>match (e[i]?:Option (Option D)),vH r e with
  | some (some d),some ds=>some (d::ds)
  | _,_=>none
noncomputable def CG (n:Nat) (m:MS) (lf:Str) (ix:List Nat):MF:=fun ds h=>(m (ds.map some++Mq (n - ds.length) none) h).bind fun fl h1=>match fl with
 | .nx e=>(match vH ix e with
  | some cs=>.ok (.clo lf cs) h1
  | none=>.bad)
 | _=>.bad
theorem sI {K:gV}{g:GG}{α:List Addr}{H:Hp}{N:List Str}{σ:St}{e:En} (v:ik K g α H e σ):∀{ix:List Nat}{ys:List Str}{cs:List D},ix.map (fun i=>N[i]?)=ys.map some->vH ix e=some cs →
  ∃vs,Paired (fun y v=>∃i:Nat,N[i]?=some y/\σ[i]?=some (some v)) ys vs/\ax K g α H cs vs
 | [],[],_,_,h=>by cases h;exact⟨[],.nil,.nil⟩
 | [],_::_,_,e,_=>by cases e
 | _::_,[],_,e,_=>by cases e
 | i::ix,y::ys,cs,hi,h=>by
  simp only[LW,PN] at hi
  unfold vH at h
  split at h
  ·rename_i d ds e1 e2
   cases h
   obtain⟨u,hu,ru⟩:=v.vars i d e1
   obtain⟨vs,p,r⟩:=sI v hi.2 e2
   exact⟨u::vs,.cons ⟨i,hi.1,hu⟩ p,.cons ru r⟩
  grind
noncomputable def mkU (K:gV):Bool:=(K.filterMap fun p=>jN K p.1).all fun a=>(K.filterMap fun p=>jN K p.1).all fun b=>!(Q8 a.1 b.1) || decide (a.2=b.2)
theorem Ay {K:gV} (h:K.lookup f=some o):∃p∈K,p.1=f:=by
 induction K with
 | nil=>cases h
 | cons q r ih=>
  grind
theorem qN {K:gV} (h:jN K f=some q):q∈K.filterMap fun p=>jN K p.1:=by
 cases e:K.lookup f with
 | none=>unfold jN at h;simp_all
 | some o=>
  obtain⟨p,hp,e1⟩:=Ay e
  grind
theorem Fj {K:gV} (u:mkU K=true) (h:jN K f=some q) (h':jN K f'=some q') (e:q'.1=q.1):q'.2=q.2:=by
 have:=L4.mp (L4.mp u q' (qN h')) q (qN h)
 simp_all
structure Mkr (K) (mg) (base:Heap) (fd:Pf) (c PT):Prop where
 code:fd.code=.ref c
 hd:Nz K c PT=true
 bat:base.BuiltinsAt mg PT
 ne:mainGlobals≠PT
 uq:mkU K=true
theorem Dl {K:gV}{c PT:Addr} (e:Nz K c PT=true):∃k d vs s,K.lookup c=some ⟨k,d,.fields vs,s⟩/\vs[11]?=some (.ref PT):=by
 unfold Nz at e
 grind
theorem CT {K:gV}{f c PT:Addr} (lk:K.lookup f=some ⟨oc,od,.func fd,osl⟩) (hc:fd.code=.ref c) (C:Nz K c PT=true) (hm:BE fd=some pos) :
  jN K f=some (PT,pos,fd.qualname++".<locals>." ++ "<lambda>"):=by
 obtain⟨k,d,vs,s,e,e11⟩:=Dl C
 unfold jN
 simp_all
section
variable {P:Mc}{w:MU}{K:gV}{mg:Str->Option LM}{base:Heap}{g:GG}
theorem Hr {st:Stmt}{c PT:Addr} (F:Fun K x x st f fd) (S:aF N ps (ak st)) (M:Mkr K mg base fd c PT)
  (hbd:cA st=rows++[.Return (some (.Lambda params body scope pos)) rpos]) (hdef:∀env,defaultsOf params env=([],[]))
  (hcl:∀L cdv , ∃clos,closureFor scope (envOfC x (ak st) L f cdv)=pure clos/\(∀z c,clos.lookup z=some c->(envOfC x (ak st) L f cdv).cells.lookup z=some c)/\∀z∈ys,∃c,clos.lookup z=some c)
  (hys:∀z∈ys,(ak st).names.lookup z=some .cell) (hix:ix.map (fun i=>N[i]?)=ys.map some) (T:uy lf y (x++".<locals>." ++ "<lambda>") ys params body scope)
  (hb:∀cdv A outer s H E , eP k (A.deeper (envOfC x (ak st) s.heap.objs.size f cdv)) →
   PSs (jj CX0 P w K mg base N x (ak st) f cdv A outer s H E).nox rows (tMS K g E00 mb)):dI P w K mg base CX0 (k+1) f fd ps (spM K g ps.length (CG N.length mb lf ix)):=by
 obtain⟨oc,od,kV,doc,pm,an,cdv,ct,osl,rfl,lk,hcd⟩:=F.ex
 have hmk:BE (M0 x x (d6 st) (cA st) (ak st) .none kV doc pm an cdv ct)=some pos:=by
  unfold BE M0
  simp_all
 have hT:=CT lk M.code M.hd hmk
 obtain rfl:cdv=.ref c:=M.code
 refine C5 lk hcd S (fun vs H Q E h=>h.1) hbd fun A outer s H vs Q E hr hsp=>?_
 obtain⟨hl,α,ds,h,rs,hh,w1⟩:=hsp
 refine⟨_,fun σ H1=>∃α1 e h1 cs,Ext K α H α1 H1/\c_ K g α1 H1 e σ h1/\vH ix e=some cs/\aR K g α H Q (.clo lf cs) h1,(hb (.ref c) A outer s H E hr).nox,?_,fun σ H1 s1 J hR=>?_⟩
 ·refine tMS.use ⟨hh,o7 rs⟩ w1.bind fun fl h' H' α' e r kk=>?_
  cases fl with
  | nx e'=>
   intro σ' s'
   dsimp only at kk
   cases ec:vH ix e' with
   | none=>rw[ec] at kk;exact kk.elim
   | some cs=>rw[ec] at kk;exact⟨α',e',h',cs,e,s',ec,kk⟩
  | bk e'=>exact kk.elim
  | ct e'=>exact kk.elim
  | rt d=>exact kk.elim
 ·obtain⟨α1,e,h1,cs,ex,sr,ec,po⟩:=hR
  obtain⟨clos,hc1,hc2,hc3⟩:=hcl s.heap.objs.size (.ref c)
  obtain⟨vs',pv,rds⟩:=sI sr.vs hix ec
  have pv2:Paired (fun z v=>(∃c,clos.lookup z=some c)/\(ak st).names.lookup z=some .cell/\∃i:Nat,N[i]?=some z/\σ[i]?=some (some v)) ys vs':=by
   clear ec rds hix T hcl
   induction pv with
   | nil=>exact .nil
   | cons q t ih=>exact .cons ⟨hc3 _ (LL ..),hys _ (LL ..),q⟩ (ih (fun z hz=>hys z (td _ hz)) (fun z hz=>hc3 z (td _ hz)))
  refine wpAny_Return_some (thn (Ac J rfl (hdef _) rfl rfl M.hd M.bat M.ne hT (fun f' q e1 e2=>Fj M.uq hT e1 e2) hc1 hc2 (fun _=>rfl) T sr.heap pv2 rds) fun u s2 md=>?_)
  obtain⟨p,H2,rfl,os,gn,hok,un,ex2,hr2,rd,_,_⟩:=md
  exact⟨_,rfl,.ref p,H2,os.trans J.os,by rw[gn];exact J.bare,un,hok,rfl,po _ H2 α1 (ex.trans ex2) hr2 rd⟩
end
noncomputable def ij (ts:List Addr) (Hs:Hp):Hp:=fun b=>if b∈ts then some (.tbl #[]) else Hs b
theorem zk {P:Mc}{w:MU}{K:gV}{mg mb:Str->Option LM}{k:Nat}{fa a:Addr}{fd:Pf}{x:Str}{sp:Sp}{s₁:LP}{vs:List LM}{ns:List Int}{ts:List Addr}
  (KX:K.In s₁.heap) (hns:s₁.heap.Ns mainGlobals mg) (hb:s₁.heap.Ns builtinsNs mb) (hbb:∀x:Str,x≠"__name__" -> mb x=bootBuiltins x) (hlim:s₁.heap.NoLimit) (hg:s₁.gens = #[])
  (hbm:∃bm ob,mg "__builtins__" = some (.ref bm)/\bm≠builtinsNs/\s₁.heap.get? bm=some ob/\ob.cls=.type "module" /\ ob.dict=some builtinsNs/\ob.data=.plain)
  (hts:∀P∈ts,s₁.heap.get? P=some (OM #[])) (hct:∀P∈ts,∃c,PySem.W.CodeHd s₁.heap c P) (hKt:∀P∈ts,K.lookup P=none)
  (ha:s₁.heap.get? a=some { cls:=.type "list", data:=.seq vs.toArray }) (hi:Oi vs ns) (hl:ns.length<=sizeLine) (hr:eP k callerA)
  (F:∀base:Heap,K.In base->base.Ns mainGlobals mg->(∀P∈ts,base.BuiltinsAt mg P)->dI P w K mg base CX0 k fa fd [x] sp) (hbind:∀(s:LP) (u:LM),Q3 s fd ⟨[u],[]⟩ [(x,u)])
  (hsp:∀H:Hp,(∀P∈ts,H P=some (.tbl #[]))->Fro K H a (ns.map V.int)->sp [.ref a] H (fun v _=>v=.bl true) fun _ _ _=>False) :
  codeAny (model P w) callerA (.call (.ref fa) ⟨[.ref a],[]⟩) (fun r s'=>r=.ok (.ret (.bool true))/\OldK s₁.heap s'.heap/\s'.os=s₁.os/\Qh s'.gens) s₁:=by
 have rv:=oF hi
 have lenV:=hi.length
 have aT:a∉ts:=fun z=>by simp_all
 have core:∀Hs:Hp,Kw Hs->Fro K (ij ts Hs) a (ns.map V.int)->HOk P w Hs s₁.heap->(∀b,Hs b≠none->b=a)->(Hs a≠none->K.lookup a=none) →
   codeAny (model P w) callerA (.call (.ref fa) ⟨[.ref a],[]⟩) (fun r s'=>r=.ok (.ret (.bool true))/\OldK s₁.heap s'.heap/\s'.os=s₁.os/\Qh s'.gens) s₁:=by
  intro Hs hO hS hok0 hA hK
  have inT:∀{b:Addr},b∈ts->ij ts Hs b=some (.tbl #[]):=fun h=>by unfold ij;simp_all
  have offT:∀{b:Addr},b∉ts->ij ts Hs b=Hs b:=fun h=>by unfold ij;simp_all
  have hok:HOk P w (ij ts Hs) s₁.heap:=fun b u e=>by
   by_cases hb:b∈ts
   ·rw[inT hb] at e;cases e;exact hts b hb
   ·rw[offT hb] at e
    refine(hok0 b u e).kj (fun _ _ _ z=>z) (fun c z=>?_) fun c xs z=>?_
    ·grind
    grind
  have non:∀{b:Addr} {o:Obj},s₁.heap.get? b=some o->(∀a n,o.data≠.seq a n)->(∀a,o.data≠.fields a)->ij ts Hs b=none:=fun{b o} e d1 d2=>by
   by_cases hb:b∈ts
   ·grind
   grind
  have base_of:∀{b:Addr} {o:Obj},s₁.heap.get? b=some o->ij ts Hs b=none->(oD s₁.heap (ij ts Hs)).get? b=some o:=fun e n=>zH e n
  have nsK:∀{b:Addr} {m:Str->Option LM},s₁.heap.Ns b m->(oD s₁.heap (ij ts Hs)).Ns b m:=fun{b m} ⟨o,es,ep,e,d,r⟩=>⟨o,es,ep,base_of e (non e (fun _ _ z=>by rw[d] at z;cases z) fun _ z=>by rw[d] at z;cases z),d,r⟩
  have hKb:K.In (oD s₁.heap (ij ts Hs)):=fun b o e=>base_of (KX b o e) (by
   grind)
  have hM:Mod K mg (oD s₁.heap (ij ts Hs)):=⟨hKb,nsK hns,⟨mb,nsK hb,hbb⟩,let ⟨mc,h1,h2⟩:=hlim;⟨mc,nsK h1,h2⟩⟩
  have hBA:∀P∈ts,(oD s₁.heap (ij ts Hs)).BuiltinsAt mg P:=fun PT hP=>by
   obtain⟨bm,ob,b1,b2,b3,b4,b5,b6⟩:=hbm
   refine⟨bm,ob,b1,b2,fun z=>?_,fun z=>?_,base_of b3 (non b3 (fun _ _ z=>by rw[b6] at z;cases z) fun _ z=>by rw[b6] at z;cases z),b4,b5,b6⟩
   ·obtain⟨o,es,ep,e,d,_⟩:=hns
    rw[<- z,b3] at e;cases e;rw[b6] at d;cases d
   grind
  have e0:yF P w K mg (oD s₁.heap (ij ts Hs)) callerA [] s₁ (ij ts Hs):=⟨rfl,hM,fun b o e=>BI e,Qm (yG _ _),trivial,fun b hb=>absurd (show b∈([]:List Addr) from hb) (by simp),hok,.of_eq hg⟩
  refine Of ((F _ hKb (nsK hns) hBA).run callerA [] s₁ (ij ts Hs) ⟨[.ref a],[]⟩ [.ref a] [.ref a] _ _ hr e0 (hbind s₁ (.ref a)) (.cons rfl .nil) (hsp _ (fun P hP=>inT hP) hS)) fun r s' h=>?_
  cases r with
  | error e=>exact h.elim
  | ok fl=>
   cases fl with
   | next=>exact Px h
   | brk=>exact Px h
   | cont=>exact Px h
   | ret u=>
    obtain⟨v,H',os,bare,un,hok',r',q⟩:=h
    have q':v=.bl true:=q
    subst q'
    obtain rfl:u=Ra true:=r'
    have old:∀b o,s₁.heap.get? b=some o->b∉ts->s'.heap.get? b=some o:=fun b o e hb=>by
     cases q:ij ts Hs b with
     | none=>exact un.keep b o e q (by intro z;exact absurd (show b∈([]:List Addr) from z) (by simp)) (by simp)
     | some u=>
      rw[offT hb] at q
      rcases hO b with z | ⟨ob,xs,z⟩
      ·rw[q] at z;cases z
      ·have z2:=un.ky b ob _ ((offT hb).trans z)
       obtain⟨e1,_⟩:=hok0 b _ z
       obtain⟨e2,_⟩:=hok' b _ z2
       grind
    have grown:∀b∈ts,∃ps,s'.heap.get? b=some (OM ps):=fun b hb=>by
     obtain⟨more,e1⟩:=un.mJ b _ (inT hb)
     exact⟨_,hok' b _ e1⟩
    refine⟨rfl,⟨fun b o e=>?_,fun b o e=>?_⟩,os,bare⟩
    ·by_cases hb:b∈ts
     ·obtain⟨ps,e1⟩:=grown b hb
      obtain⟨c,C⟩:=hct b hb
      have e2:=hts b hb
      rw[e] at e2;cases e2
      exact .inr (.inl ⟨(C.tab (hts b hb)).isCodeTable,rfl,#[],ps,rfl,by rw[e1];simp⟩)
     ·exact .inl (old b o e hb)
    ·by_cases hb:b∈ts
     ·obtain⟨ps,e1⟩:=grown b hb;exact⟨_,e1⟩
     ·exact⟨o,old b o e hb⟩
 cases hk:K.lookup a with
 | some o=>
  have e:=KX a o hk
  rw[ha] at e
  cases e
  refine core (fun _=>none) (fun _=>.inl rfl) (.inr ⟨_,vs.toArray,_,hk,rfl,rfl,rfl,by simp_all,by lia⟩) (fun b u z=>by have z':(none:Option HO)=some u:=z;cases z') (fun b z=>absurd rfl z) fun z=>absurd rfl z
 | none=>
  refine core (fun b=>if b=a then some (.frz { cls:=.type "list", data:=.seq vs.toArray } (.lst (ns.map V.int))) else none) (fun b=>?_) (.inl ⟨{ cls:=.type "list", data:=.seq vs.toArray },?_⟩) (fun b u z=>?_) (fun b z=>?_) fun _=>hk
  ·by_cases hb:b=a
   ·exact .inr ⟨_,_,if_pos hb⟩
   ·exact .inl (if_neg hb)
  ·unfold ij;rw[if_neg aT];exact if_pos rfl
  ·by_cases hb:b=a
   ·have z':=(if_pos hb).symm.trans z
    cases z'
    subst hb
    exact⟨ha,by rw[LQ];exact hl,vs,_,rv,ha⟩
   ·have z':=(if_neg hb).symm.trans z
    cases z'
  ·by_cases hb:b=a
   ·exact hb
   ·exact absurd (if_neg hb) z
noncomputable def tabOf (K:gV) (c:Addr):Addr:=match K.lookup c with
 | some ⟨_,_,.fields vs,_⟩=>(match (vs[11]?:Option LM) with | some (.ref P)=>P | _=>0)
 | _=>0
noncomputable def GD (K:gV) (ts:List Addr):Bool:=(K.filterMap fun p=>jN K p.1).all (fun q=>ts.any (Q8 q.1))&&ts.all fun P=>(K.lookup P).isNone&&K.any fun p=>match p.2.data with
 | .func fd=>(match fd.code with
  | .ref c=>Nz K c P
  | _=>false)
 | _=>false
noncomputable def Eu (K:gV) (ts:List Addr) (x:Str) (st:Stmt):Prop:=∃f fd c,Mz K mainGlobals x=some (some (.ref f))/\Fun K x x st f fd/\fd.code=.ref c/\Nz K c (tabOf K c)=true/\ts.any (Q8 (tabOf K c))=true/\Q8 mainGlobals (tabOf K c)=false
noncomputable def Cq (K:gV) (mg:Str->Option LM) (base:Heap) (x:Str) (st:Stmt):Prop:=∀f fd,mg x=some (.ref f)->Fun K x x st f fd->∃c PT,Mkr K mg base fd c PT
theorem G1 {K:gV}{st:Stmt}{kV doc pm ct:LM} (a:Mz K mainGlobals x=some (some (.ref f)))
  (l:K.lookup f=some ⟨oc,od,.func (M0 x x (d6 st) (cA st) (ak st) .none kV doc pm an (.ref c) ct),osl⟩) (cc:OK K (.ref c) x=true) (k:M5 K (.ref f)=true)
  (h1:Nz K c (tabOf K c)=true) (h2:ts.any (Q8 (tabOf K c))=true) (h3:Q8 mainGlobals (tabOf K c)=false):Eu K ts x st:=⟨f,_,c,a,Bt l cc k,rfl,h1,h2,h3⟩
theorem Cq.of {K:gV}{st:Stmt} (X:K.In h) (G:h.Ns mainGlobals mg) (hB:∀P∈ts,base.BuiltinsAt mg P) (hU:mkU K=true) (m:Eu K ts x st):Cq K mg base x st:=by
 intro f fd hm F
 obtain⟨f2,fd2,c,a,F2,hc,h1,h2,h3⟩:=m
 have hm2:=OZ X G a
 rw[hm] at hm2
 cases hm2
 obtain⟨oc,od,osl,l1⟩:=dZ F
 obtain⟨oc',od',osl',l2⟩:=dZ F2
 rw[l1] at l2
 cases l2
 obtain⟨P,hP,e⟩:=M8.mp h2
 have e:=Nat.eq_of_beq_eq_true e
 refine⟨c,tabOf K c,hc,h1,hB _ (by simp_all),fun z=>?_,hU⟩
 simp_all
theorem CY {k:Nat}{m:MF}{l:PySem.W.OpenLaw}{q:Mc}{loose:List Str}{XP:(Str->Option LM)->Heap->Prop}{YP:MU->Heap->Prop}{d:DefRec}{K:Params->gV}{ts:List Addr} (hn:l.most=some 63) (hdf:d.params.defaults=[]) (hr:eP k callerA)
  (hY:∀(w:MU) (h:Heap),YP w h->(K w.params).In h) (hT:∀(w:MU) (h:Heap),YP w h->∀P∈ts,h.get? P=some (OM #[])) (hI:∀P,GD (K P) ts=true)
  (ok:∀ns:List Int,ns.length<=63->∃h,m [.scr (ns.map D.int)] []=.ok (.bl true) h)
  (F:∀(w:MU) (mg:Str->Option LM) (fa:Addr) (h:Heap),(K w.params).In h->h.Ns mainGlobals mg->mg d.name=some (.ref fa) →
   ∃fd:Pf,(∀(s:LP) (u:LM),Q3 s fd ⟨[u],[]⟩ [("_law_script", u)])/\∀base:Heap,(K w.params).In base->base.Ns mainGlobals mg->(∀P∈ts,base.BuiltinsAt mg P)->dI l.prog w (K w.params) mg base CX0 k fa fd ["_law_script"] (spM (K w.params) (gOf mg) 1 m)) :
  PySem.W.WalkO q loose XP YP l.row.toRowW d [] (fun f vs=>Rf f vs):=by
 refine Att.rO hn hdf fun w au s₁ mg mb fa o pm cd doc a vs ns G Y ho hd hcd hmg hobj hints hlen hg=>?_
 have KX:=hY w _ Y
 obtain⟨fd,hb,hF⟩:=F w mg fa _ KX G.T.g hmg
 have i:=hI w.params
 unfold GD at i
 obtain⟨i1,i2⟩:=Bool.and_eq_true_iff.mp i
 have tq:∀P∈ts,∃c,(K w.params).lookup P=none/\Nz (K w.params) c P=true:=fun P hP=>by
  have z:=Bool.and_eq_true_iff.mp (L4.mp i2 P hP)
  obtain⟨p,_,y⟩:=M8.mp z.2
  split at y
  ·split at y
   ·rename_i c _;exact⟨c,by simpa using z.1,y⟩
   grind
  grind
 refine zk (sp:=fun vs H Q _=>∃a ns,vs=[V.ref a]/\ns.length<=63/\(∀P∈ts,H P=some (.tbl #[]))/\Fro (K w.params) H a (ns.map V.int)/\∀v H',v=V.bl true->Q v H') KX G.T.g G.T.b G.T.builtins G.T.nolimit hg G.T.bmain (hT w _ Y) (fun P hP=>let ⟨c,_,e⟩:=tq P hP;⟨c,PySem.W.codeHd_of_K KX e⟩) (fun P hP=>let ⟨_,e,_⟩:=tq P hP;e) hobj hints (L0 hlen (by decide)) hr
  (fun base kb nb bb=>(hF base kb nb bb).imp fun vs H Q E z=>?_) hb (fun H h1 h2=>⟨a,ns,rfl,hlen,h1,h2,fun _ _ z=>z⟩)
 obtain⟨a,ns,rfl,hl,hO,hS,hQ⟩:=z
 obtain⟨hh,e⟩:=ok ns hl
 refine⟨rfl,[],[.scr (ns.map D.int)],[],.cons (.scr hS (ax.ints ns)) .nil,⟨rfl,fun n m p z=>by simp at z,fun n p o z=>by simp at z,fun f q e=>.inl (hO _ ?_)⟩,?_⟩
 ·obtain⟨p,hp,z⟩:=M8.mp (L4.mp i1 q (qN e))
  simp_all
 ·rw[e]
  intro v H' α' _ _ rd
  cases rd
  simp_all
noncomputable def iz (cells:List (Str × Addr)):List (Str × NW)->List (Str × Addr)->List (Str × Addr)
 | [],cs=>cs
 | (n,k)::r,cs=>iz cells r (if k == .free then (n,(cells.lookup n).getD 0)::cs else cs)
theorem xZ {env:Env}:∀(ns:List (Str × NW)) (cs:List (Str × Addr)),(∀q∈ns,q.2=.free->(env.cells.lookup q.1).isSome=true) →
  (forIn ns cs fun(x:Str × NW) (r:List (Str × Addr))=>match x with
   | (name,kind)=>if (kind == .free)=true then do let c ← cellOf env name;pure (NU ((name,c)::r)) else pure (NU r):Sem (List (Str × Addr)))=pure (iz env.cells ns cs)
 | [],cs,_=>by rfl
 | (n,k)::r,cs,h=>by
  rw[PF]
  have ih:=fun cs=>xZ r cs fun q hq=>h q (td _ hq)
  by_cases hk:(k == .free)=true
  ·obtain⟨c,hc⟩:=N_.mp (h (n,k) (LL ..) (beq_iff_eq.mp hk))
   simp only[hk,iz,hc,cellOf]
   exact ih _
  ·simp only[Bool.not_eq_true] at hk
   simp only[hk,iz]
   grind
theorem B8 (h:∀q∈scope.names,q.2=.free->(env.cells.lookup q.1).isSome=true):closureFor scope env=pure (iz env.cells scope.names []):=by
 exact(congrArg (fun m:Sem (List (Str × Addr))=>m >>= fun s=>pure s) (xZ scope.names [] h)).trans (pure_bind _ _)
theorem t7 {cells:List (Str × Addr)}{z:Str}{c:Addr}:∀(ns:List (Str × NW)) (cs:List (Str × Addr)),(∀q∈ns,q.2=.free->(cells.lookup q.1).isSome=true)->(∀z c,cs.lookup z=some c->cells.lookup z=some c)->(iz cells ns cs).lookup z=some c->cells.lookup z=some c
 | [],cs,_,h,e=>h z c e
 | (n,k)::r,cs,hf,h,e=>by
  refine t7 r _ (fun q hq=>hf q (td _ hq)) (fun z c=>?_) e
  split
  ·rename_i hk
   rw[List.lookup_cons]
   split
   ·rename_i hz
    intro q
    cases q
    obtain⟨c,hc⟩:=N_.mp (hf (n,k) (LL ..) (beq_iff_eq.mp hk))
    simp_all
   simp_all
  simp_all
theorem o6 {cells:List (Str × Addr)}{z:Str}:∀(ns:List (Str × NW)) (cs:List (Str × Addr)),(∃c,cs.lookup z=some c)->∃c,(iz cells ns cs).lookup z=some c
 | [],cs,h=>h
 | (n,k)::r,cs,h=>by
  refine o6 r _ ?_
  grind
theorem sD {cells:List (Str × Addr)}{z:Str}:∀(ns:List (Str × NW)) (cs:List (Str × Addr)),(z,OD)∈ns->∃c,(iz cells ns cs).lookup z=some c
 | (n,k)::r,cs,h=>by
  rcases LR.mp h with e | e
  ·cases e
   refine o6 r _ ?_
   simp
  ·exact sD r _ e
section
variable {P:Mc}{w:MU}{K:gV}{mg:Str->Option LM}{base:Heap}{g:GG}
theorem GB {x:Str}{st:Stmt}{f:Addr}{fd:Pf}{N ps:List Str}{k:Nat}{mb:MS} (rows:List Stmt){params:Qx}{body:Expr}{scope:Pg}{pos rpos:Pos} (lf y:Str) (ys:List Str) (ix:List Nat){c PT:Addr} (F:Fun K x x st f fd) (S:aF N ps (ak st)) (M:Mkr K mg base fd c PT)
  (hbd:cA st=rows++[.Return (some (.Lambda params body scope pos)) rpos]) (hdef:∀env,defaultsOf params env=([],[]))
  (hfr:∀q∈scope.names,q.2=.free->(ak st).names.lookup q.1=some .cell) (hyf:∀z∈ys,(z,OD)∈scope.names)
  (hix:ix.map (fun i=>N[i]?)=ys.map some) (T:uy lf y (x++".<locals>." ++ "<lambda>") ys params body scope)
  (hb:∀(cdv:LM) (A:MY) (outer:List Env) (s:LP) (H:Hp) (E:XK),eP k (A.deeper (envOfC x (ak st) s.heap.objs.size f cdv)) →
   PSs (jj CX0 P w K mg base N x (ak st) f cdv A outer s H E).nox rows (tMS K g E00 mb)):dI P w K mg base CX0 (k+1) f fd ps (spM K g ps.length (CG N.length mb lf ix)):=by
 refine Hr F S M hbd hdef (fun L cdv=>?_) (fun z hz=>hfr (z,.free) (hyf z hz) rfl) hix T hb
 have hs:∀q∈scope.names,q.2=.free->((envOfC x (ak st) L f cdv).cells.lookup q.1).isSome=true:=fun q hq e=>Ov _ _ _ (.inl (hfr q hq e))
 exact⟨_,B8 hs,fun z c e=>t7 scope.names [] hs (fun _ _ z=>nomatch z) e,fun z hz=>sD scope.names [] (hyf z hz)⟩
end
end L2.FE
namespace L2.FE
open PySem
section
variable {β γ:Type}{h h1:Hh}{env:En}
@[simp] theorem cu {f:β->Hh->R γ}:(R.ok b h).bind f=f b h:=LO rfl rfl
@[simp] theorem HG:(R.bad).bind f=.bad:=LO rfl rfl
@[simp] theorem IY [Decidable c]{a b:R β}{f:β->Hh->R γ}:(if c then a else b).bind f=if c then a.bind f else b.bind f:=by split<;>rfl
@[simp] theorem e_C:cC d env h=.ok d h:=LO rfl rfl
@[simp] theorem Ke {r:En}:ae 0 (some d::r) h=.ok d h:=LO rfl rfl
@[simp] theorem Kh {r:En}:ae (i+1) (x::r) h=ae i r h:=LO rfl rfl
@[simp] theorem Ik:ao f a b env h=(a env h).bind fun x h1=>(b env h1).bind fun y h2=>f x y h2:=LO rfl rfl
@[simp] theorem LC:cUn f a env h=(a env h).bind fun x h1=>f x h1:=LO rfl rfl
@[simp] theorem K4:aj env h=.ok [] h:=LO rfl rfl
@[simp] theorem J3:aa a r env h=(a env h).bind fun x h1=>(r env h1).bind fun xs h2=>.ok (x::xs) h2:=LO rfl rfl
@[simp] theorem Ks:ah f a env h=(a env h).bind f:=LO rfl rfl
@[simp] theorem Jn:kQ f o a env h=(o env h).bind fun x h1=>if isL x h1=true then (a env h1).bind fun xs h2=>f x xs h2 else .bad:=LO rfl rfl
@[simp] theorem FW:aw f a env h=(a env h).bind f:=LO rfl rfl
@[simp] theorem KG:d_ a env h=(a env h).bind fun b h1=>.ok (!b) h1:=LO rfl rfl
@[simp] theorem JB:zE a b env h=(a env h).bind fun x h1=>if x=true then b env h1 else .ok false h1:=LO rfl rfl
@[simp] theorem Lm:fY a b env h=(a env h).bind fun x h1=>if x=true then .ok true h1 else b env h1:=LO rfl rfl
@[simp] theorem LG:cIf c a b env h=(c env h).bind fun x h1=>if x=true then a env h1 else b env h1:=LO rfl rfl
@[simp] theorem K8:asB (.bl b) h=.ok b h:=LO rfl rfl
@[simp] theorem Ky:wX a b env h=(a env h).bind fun x h1=>(asB x h1).bind fun k h2=>if k=true then b env h2 else .ok (.bl false) h2:=LO rfl rfl
@[simp] theorem Ju:kh f f' a b c env h=(a env h).bind fun x h1=>(b env h1).bind fun y h2=>(f x y h2).bind fun z h3=>(asB z h3).bind fun k h4=>if k=true then (c env h4).bind fun w h5=>f' y w h5 else .ok (.bl false) h4:=LO rfl rfl
@[simp] theorem Ip:de env h=.ok none h:=LO rfl rfl
noncomputable def DP:D->Hh->R (Option Int):=fun d h1=>match d with
 | .int i=>.ok (some i) h1
 | _=>.bad
@[simp] theorem Jl:DP (.int i) h=.ok (some i) h:=LO rfl rfl
@[simp] theorem JS:dR a env h=(a env h).bind DP:=LO rfl rfl
@[simp] theorem Jt:dn nl a l u env h=(a env h).bind fun x h1=>(l env h1).bind fun lo h2=>(u env h2).bind fun hi h3=>rE nl x lo hi h3:=LO rfl rfl
@[simp] theorem Ki:a9 env h=.ok (.nx env) h:=LO rfl rfl
@[simp] theorem Lr:BF env h=.ok (.bk env) h:=LO rfl rfl
noncomputable def Cj (b:MS):Fl->Hh->R Fl:=fun fl h1=>match fl with
 | .nx e=>b e h1
 | fl=>.ok fl h1
@[simp] theorem K2:Cj b (.nx e) h=b e h:=LO rfl rfl
@[simp] theorem Lz:Cj b (.bk e) h=.ok (.bk e) h:=LO rfl rfl
@[simp] theorem LA:Cj b (.rt d) h=.ok (.rt d) h:=LO rfl rfl
@[simp] theorem IS:az a b env h=(a env h).bind (Cj b):=by
 rfl
@[simp] theorem JZ:cW a env h=(a env h).bind fun _ h1=>.ok (.nx env) h1:=LO rfl rfl
@[simp] theorem Lp:aW a env h=(a env h).bind fun d h1=>.ok (.rt d) h1:=LO rfl rfl
@[simp] theorem Lb:bV c a b env h=(c env h).bind fun x h1=>if x=true then a env h1 else b env h1:=LO rfl rfl
@[simp] theorem HU:aV i a env h=(a env h).bind fun d h1=>.ok (.nx (env.set i (some d))) h1:=LO rfl rfl
@[simp] theorem EJ:gN i d env h=.ok (env.set i (some d)) h:=LO rfl rfl
@[simp] theorem H_:gT2 i j (.tup [x,y]) env h=.ok ((env.set i (some x)).set j (some y)) h:=LO rfl rfl
@[simp] theorem La:uF i j a env h=(a env h).bind fun d h1=>(gT2 i j d env h1).bind fun e h2=>.ok (.nx e) h2:=LO rfl rfl
@[simp] theorem Lx:oB i f a env h=(ae i env h).bind fun x h0=>(a env h0).bind fun y h1=>(f x y h1).bind fun z h2=>.ok (.nx (env.set i (some z))) h2:=LO rfl rfl
@[simp] theorem Jz:qg f o i v env h=(v env h).bind fun x h1=>(o env h1).bind fun y h2=>(i env h2).bind fun z h3=>(f y z x h3).bind fun _ h4=>.ok (.nx env) h4:=LO rfl rfl
noncomputable def Gz:Fl->Hh->R D:=fun fl h1=>match fl with
 | .rt d=>.ok d h1
 | .nx _=>.ok .non h1
 | _=>.bad
@[simp] theorem LB:Gz (.rt d) h=.ok d h:=LO rfl rfl
@[simp] theorem LF:Gz (.nx e) h=.ok .non h:=LO rfl rfl
theorem bq:b9 n m ds h=(m (ds.map some++Mq (n - ds.length) none) h).bind Gz:=by
 rfl
section
variable {nl:NL}
@[simp] theorem JM:bQ nl (.int i) (.int j) h=.ok (.int (i+j)) h:=LO rfl rfl
@[simp] theorem Jx:xN (.int i) (.int j) h=.ok (.int (i+j)) h:=LO rfl rfl
@[simp] theorem Kv:bR (.int i) (.int j) h=.ok (.int (i - j)) h:=LO rfl rfl
@[simp] theorem JI:nD (.int i) h=.ok (.int (-i)) h:=LO rfl rfl
@[simp] theorem Lq:dLt (.int i) (.int j) h=.ok (.bl (decide (i<j))) h:=by unfold dLt;rw[mD];rfl
@[simp] theorem K6:dLe (.int i) (.int j) h=.ok (.bl (decide (i<=j))) h:=by unfold dLe;rw[qI];rfl
@[simp] theorem Ln:dGt (.int i) (.int j) h=.ok (.bl (decide (j<i))) h:=by unfold dGt;rw[mD];rfl
@[simp] theorem K5:dGe (.int i) (.int j) h=.ok (.bl (decide (j<=i))) h:=by unfold dGe;rw[qI];rfl
@[simp] theorem J4:mM nl (.int i) (.int j) h=if sml i=true/\sml j=true then .ok (.int (i*j)) h else .bad:=LO rfl rfl
@[simp] theorem Jm:xQ (.int i) (.int j) h=if sml i=true/\sml j=true then .ok (.int (i*j)) h else .bad:=LO rfl rfl
@[simp] theorem Kl:qk (.int i) (.int j) h=if 0<j/\sml j=true then .ok (.int (i / j)) h else .bad:=LO rfl rfl
@[simp] theorem Kf:vR (.int i) (.int j) h=if 0<j then .ok (.int (i % j)) h else .bad:=LO rfl rfl
@[simp] theorem JG:FK (.int i) (.int j) h=if 0<=j/\j.natAbs<=1000/\sml i=true then .ok (.int (i ^ j.toNat)) h else .bad:=LO rfl rfl
@[simp] theorem KY:AJ [.int i,.int j] h=.ok (.int (max i j)) h:=by
 have:(if j > i then j else i)=max i j:=by split<;>lia
 rw[<- this];rfl
@[simp] theorem KZ:uu [.int i,.int j] h=.ok (.int (min i j)) h:=by
 have:(if j<i then j else i)=min i j:=by split<;>lia
 rw[<- this];rfl
@[simp] theorem KO:yZ [.bl b] h=.ok (.int (if b then 1 else 0)) h:=LO rfl rfl
@[simp] theorem Ld:d8 ds h=if ds.length<=1000000 then .ok (.tup ds) h else .bad:=LO rfl rfl
@[simp] theorem Ll:eB nl ds h=if ds.length<=1000000 then nl ds h else .bad:=LO rfl rfl
@[simp] theorem JP:s_ ds h=.ok (.ref h.length) (h++[.lst ds]):=LO rfl rfl
@[simp] theorem JX:aD ds h=.ok (.frl ds) h:=LO rfl rfl
@[simp] theorem JN:dJ [.tup ds] h=.ok (.int ds.length) h:=LO rfl rfl
@[simp] theorem Km:dJ [.frl ds] h=.ok (.int ds.length) h:=LO rfl rfl
@[simp] theorem Kd:dJ [.scr ds] h=.ok (.int ds.length) h:=LO rfl rfl
noncomputable def ixK (ds:List D) (i:Int) (h:Hh):R D:=match atI ds i with
 | some d=>.ok d h
 | none=>.bad
@[simp] theorem D4:dIx (.tup ds) (.int i) h=ixK ds i h:=LO rfl rfl
@[simp] theorem K_:dIx (.frl ds) (.int i) h=ixK ds i h:=LO rfl rfl
@[simp] theorem Lk:dIx (.scr ds) (.int i) h=ixK ds i h:=LO rfl rfl
theorem pG (e:aH h n=some ds):dIx (.ref n) (.int i) h=ixK ds i h:=by
 have z:iO (.ref n) h=some ds:=e
 delta dIx;rw[z];rfl
theorem AA {ds:List D}{i:Int}{d:D} (e:atI ds i=some d):ixK ds i h=.ok d h:=by simp only[ixK,e]
theorem AH {j:Nat}{v:β} (h:xs[j]?=some v) (e:i=(j:Int)):atI xs i=some v:=by rw[e];exact CJ h
theorem lU {j:Nat} (e:i=(j:Int)) (e2:ds[j]?=some d):ixK ds i h=.ok d h:=AA (AH e2 e)
noncomputable def gI (ns:List Int) (i:Nat):Int:=ns.getD i 0
theorem eD (hj):gI ns j=ns[j]:=by
 unfold gI;simp_all
theorem EX (hj:j<ns.length):gI ns j∈ns:=by rw[eD hj];simp
theorem jT {j:Nat} (e:i=(j:Int)) (hj:j<ns.length):ixK (ns.map D.int) i h=.ok (.int (gI ns j)) h:=by
 refine lU e ?_
 rw[Me,LU hj,eD hj];rfl
@[simp] theorem Lu:ixK (d::ds) 0 h=.ok d h:=lU rfl rfl
@[simp] theorem K9:ixK (d::d1::ds) 1 h=.ok d1 h:=lU rfl rfl
theorem zB:atI (xs++[x]) (-1)=some x:=by
 unfold atI ixN
 rw[if_neg (by decide),if_pos (by grind)]
 have:((-1:Int)+((xs++[x]).length:Nat)).toNat=xs.length:=by grind
 simp_all
@[simp] theorem mS:ixK (xs++[x]) (-1) h=.ok x h:=AA zB
@[simp] theorem JF:rE nl (.tup ds) lo hi h=.ok (.tup (cutD ds lo hi)) h:=LO rfl rfl
@[simp] theorem Kj:rE nl (.frl ds) lo hi h=nl (cutD ds lo hi) h:=LO rfl rfl
@[simp] theorem KP:rE nl (.scr ds) lo hi h=nl (cutD ds lo hi) h:=LO rfl rfl
@[simp] theorem JR:bQ nl (.tup a) (.tup b) h=if a.length+b.length<=1000000 then .ok (.tup (a++b)) h else .bad:=LO rfl rfl
@[simp] theorem KI:bQ nl (.frl a) (.frl b) h=if a.length+b.length<=1000000 then nl (a++b) h else .bad:=LO rfl rfl
@[simp] theorem JT:dE [.frl ds] h=.ok (.tup ds) h:=LO rfl rfl
@[simp] theorem Gp {ns:List Int}:gi [.frl (ns.map D.int)] h=.ok (.int ns.sum) h:=by simp only[gi,iO,eI]
@[simp] theorem Fn {ns:List Int}:gi [.tup (ns.map D.int)] h=.ok (.int ns.sum) h:=by simp only[gi,iO,eI]
@[simp] theorem J5:eZ (.bl b) h=.ok b h:=LO rfl rfl
@[simp] theorem Ls:dEq (.int i) (.int j) h=.ok (.bl (i == j)) h:=LO rfl rfl
@[simp] theorem Le:dNe (.int i) (.int j) h=.ok (.bl (!(i == j))) h:=LO rfl rfl
@[simp] theorem KL:qP "tuple" (.tup ds) h=.ok (.bl true) h:=LO rfl rfl
@[simp] theorem Hw:kJ nl [.int i,.int j] h=if (i.natAbs<=1000000/\j.natAbs<=1000000)/\(j - i).toNat<=1000000 then nl (bC i (j - i).toNat) h else .bad:=by
 by_cases z:(i.natAbs<=1000000/\j.natAbs<=1000000)/\(j - i).toNat<=1000000
 ·rw[if_pos z];simp only[kJ,yb,if_pos z]
 ·rw[if_neg z];simp only[kJ,yb,if_neg z]
@[simp] theorem f_ {t:Hh}:aH (h++.lst ds::t) h.length=some ds:=by
 unfold aH;simp
@[simp] theorem pN {t:Hh}:(h++o::t).set h.length o'=h++o'::t:=by
 simp
theorem F5 {n:Nat}{ds:List D} (e:aH h n=some ds):isL (.ref n) h=true:=by simp[isL,e]
theorem sW (e:aH h n=some ds):eM (.ref n) [d] h=if ds.length<1000000 then .ok .non (h.set n (.lst (ds++[d]))) else .bad:=by delta eM;simp_all
theorem qE (e:aH h n=some ds) (e2:ixN ds.length i=some j):kn (.ref n) (.int i) v h=.ok () (h.set n (.lst (ds.set j v))):=by delta kn;simp_all
@[simp] theorem Js {t:Hh}:dJ [.ref h.length] (h++.set k::t)=.ok (.int k.length) (h++.set k::t):=by
 have:(h++O.set k::t)[h.length]?=some (.set k):=by rw[LY (LH _)];simp
 delta dJ;dsimp only;rw[this]
@[simp] theorem Kp:zK [.tup (ns.map D.int)] h=if ns.length<=4000 then .ok (.ref h.length) (h++[.set (unl ns)]) else .bad:=by delta zK;dsimp only;rw[eI]
@[simp] theorem Kr {t:Hh}:isL (.ref h.length) (h++.lst ds::t)=true:=F5 f_
@[simp] theorem GS {t:Hh}:eM (.ref h.length) [d] (h++.lst ds::t)=if ds.length<1000000 then .ok .non (h++.lst (ds++[d])::t) else .bad:=by rw[sW f_,pN]
end
@[simp] theorem JW:eS fC a env h=(a env h).bind fC:=LO rfl rfl
@[simp] theorem J8:eS vG a env h=(a env h).bind vG:=LO rfl rfl
@[simp] theorem KU:fC [.int j] h=if j.natAbs<=1000000 then .ok (.snap (bC 0 j.toNat)) h else .bad:=LO rfl rfl
@[simp] theorem Kn:vG [.int i,.int j] h=if i.natAbs<=1000000/\j.natAbs<=1000000 then .ok (.snap (bC i (j - i).toNat)) h else .bad:=LO rfl rfl
@[simp] theorem Ly:bz a env h=(a env h).bind pS:=LO rfl rfl
@[simp] theorem J_:qp a env h=(a env h).bind wD:=LO rfl rfl
@[simp] theorem Lc:pS (.tup ds) h=.ok (.snap ds) h:=LO rfl rfl
@[simp] theorem Lg:pS (.frl ds) h=.ok (.snap ds) h:=LO rfl rfl
@[simp] theorem Ka:t5 a env h=(a env h).bind Ae:=LO rfl rfl
@[simp] theorem K1:Ae [.frl ds,.frl es] h=.ok (.snap (gq ds es)) h:=LO rfl rfl
@[simp] theorem JA:Ae [.tup ds,.tup es] h=.ok (.snap (gq ds es)) h:=LO rfl rfl
@[simp] theorem Jv:wD (.frl ds) h=.ok (.snap (gC ds)) h:=LO rfl rfl
theorem I0 (e:aH h n=some ds):pS (.ref n) h=.ok (.live n) h:=by simp only[pS,e]
noncomputable def GZ (tg:D->En->Hh->R En) (body:MS) (env:En):Src->Hh->R Fl:=fun sr h1=>match sr with
 | .snap ds=>eJ tg body ds env h1
 | .live n=>kG (Src.live n).rdr tg body ((aH h1 n).getD []).length 0 env h1
 | .liveE n=>kG (Src.liveE n).rdr tg body ((aH h1 n).getD []).length 0 env h1
@[simp] theorem KR:GZ tg body env (.snap ds) h=eJ tg body ds env h:=LO rfl rfl
@[simp] theorem Lw:eL mi tg body env h=(mi env h).bind (GZ tg body env):=by
 congr 1
noncomputable def IM (nl:NL) (tt:MT) (te:ME) (ee:D->En):Src->Hh->R D:=fun sr h1=>if sr.fuel h1<=1000000 then
 (match sr with
  | .snap ds=>bX tt te ee ds h1
  | .live n=>f7 (Src.live n).rdr tt te ee ((aH h1 n).getD []).length 0 [] h1
  | .liveE n=>f7 (Src.liveE n).rdr tt te ee ((aH h1 n).getD []).length 0 [] h1).bind nl else .bad
@[simp] theorem KN:bu nl mi ix tt te env h=(mi env h).bind (IM nl tt te (je ix env)):=LO rfl rfl
@[simp] theorem Jq:IM nl tt te ee (.snap ds) h=if ds.length<=1000000 then (bX tt te ee ds h).bind nl else .bad:=LO rfl rfl
@[simp] theorem GQ {lo:Int}{n:Nat}:(bC lo n).length=n:=by simp[bC]
@[simp] theorem Jy (x:Option β):Option.join (some x)=x:=by rfl
@[simp] theorem K7:je ix env=fun d=>some d::ix.map fun i=>(env[i]?).join:=LO rfl rfl
@[simp] theorem Lo:tt1 env h=.ok true h:=LO rfl rfl
@[simp] theorem Li {m:En->Hh->R β}{r:En}:unp m (some (.tup [x,y])::r) h=m (some x::some y::r) h:=LO rfl rfl
@[simp] theorem Jp:uQ f c b env h=gg c b f env h:=LO rfl rfl
noncomputable def Fq (tg:D->En->Hh->R En) (body:MS) (ds:List D):Fl->Hh->R Fl:=fun fl h2=>match fl with
 | .nx e=>eJ tg body ds e h2
 | .ct e=>eJ tg body ds e h2
 | .bk e=>.ok (.nx e) h2
 | .rt d=>.ok (.rt d) h2
theorem rH:eJ tg body (d::ds) env h=(tg d env h).bind fun e1 h1=>(body e1 h1).bind (Fq tg body ds):=rfl
@[simp] theorem Lf:Fq tg body ds (.nx e) h=eJ tg body ds e h:=LO rfl rfl
@[simp] theorem Lh:Fq tg body ds (.bk e) h=.ok (.nx e) h:=LO rfl rfl
theorem yc (ns):gC (ns.map D.int)=(LK ns.length).map fun(i:Nat)=>D.tup [.int i,.int (gI ns i)]:=by
 unfold gC
 rw[LQ]
 apply L9
 intro i hi
 have hi:=Mt.mp hi
 rw[MR,Me,LU hi,eD hi];rfl
theorem gy {σ X:Type}{tg:D->En->Hh->R En}{body:MS} (E:σ->En) (G:σ->Hh) (enc:X->D) (f:σ->X->σ) (I:List X->σ->Prop) (st:∀s x r,I (x::r) s->I r (f s x)/\((tg (enc x) (E s) (G s)).bind body=.ok (.nx (E (f s x))) (G (f s x))\/(tg (enc x) (E s) (G s)).bind body=.ok (.ct (E (f s x))) (G (f s x)))) :
  ∀(xs:List X) (s:σ),I xs s->eJ tg body (xs.map enc) (E s) (G s)=.ok (.nx (E (xs.foldl f s))) (G (xs.foldl f s))/\I [] (xs.foldl f s)
 | [],s,i=>⟨rfl,i⟩
 | x::xs,s,i=>by
  obtain⟨i1,e⟩:=st s x xs i
  obtain⟨e2,i2⟩:=gy E G enc f I st xs (f s x) i1
  refine⟨?_,i2⟩
  rw[LW,eJ]
  rw[<- bG]
  rcases e with e | e<;>rw[e]<;>exact e2
theorem comp_map {X:Type}{tt:MT}{te:ME}{ee:D->En} (enc:X->D) (p:X->Bool) (g:X->D):∀(xs:List X),(∀x∈xs,tt (ee (enc x)) h=.ok (p x) h/\(p x=true->te (ee (enc x)) h=.ok (g x) h)) →
  bX tt te ee (xs.map enc) h=.ok ((xs.filter p).map g) h
 | [],_=>rfl
 | x::xs,st=>by
  obtain⟨e1,e2⟩:=st x LL
  have ih:=comp_map enc p g xs fun y hy=>st y (td _ hy)
  rw[LW,bX,e1,cu]
  cases hp:p x with
  | false=>simp_all
  | true=>simp_all
theorem fN {X:Type} (enc) (g) (xs:List X) (st:∀x∈xs,te (ee (enc x)) h=.ok (g x) h):bX tt1 te ee (xs.map enc) h=.ok (xs.map g) h:=by
 have:=comp_map (tt:=tt1) enc (fun _=>true) g xs fun x hx=>⟨rfl,fun _=>st x hx⟩
 rw[M4.mpr fun _ _=>rfl] at this
 lia
theorem u6 {X:Type} (enc) (g) (xs:List X) (tt) (ht:∀x∈xs,tt (ee (enc x)) h=.ok true h) (st:∀x∈xs,te (ee (enc x)) h=.ok (g x) h):bX tt te ee (xs.map enc) h=.ok (xs.map g) h:=by
 have:=comp_map enc (fun _=>true) g xs fun x hx=>⟨ht x hx,fun _=>st x hx⟩
 rw[M4.mpr fun _ _=>rfl] at this
 lia
theorem cX (n):bC 0 n=(LK n).map fun(i:Nat)=>D.int i:=by
 apply L9
 simp
theorem r8 (p) (g) (st:∀i,i<n->tt (ee (.int (i:Nat))) h=.ok (p i) h/\(p i=true->te (ee (.int (i:Nat))) h=.ok (g i) h)) :
  bX tt te ee (bC 0 n) h=.ok (((LK n).filter p).map g) h:=by
 rw[cX,comp_map (fun(i:Nat)=>D.int i) p g (LK n) fun i hi=>st i (Mt.mp hi)]
theorem oY (g) (st:∀i,i<n->te (ee (.int (i:Nat))) h=.ok (g i) h) :
  bX tt1 te ee (bC 0 n) h=.ok ((LK n).map g) h:=by
 rw[cX,fN (fun(i:Nat)=>D.int i) g (LK n) fun i hi=>st i (Mt.mp hi)]
theorem Dy {σ:Type} (enc) (n) (E:σ->En) (G:σ->Hh) (f) (I:Nat->σ->Prop) (s) (i0:I 0 s)
  (st:∀i s,i<n->I i s->I (i+1) (f s i)/\((tg (enc i) (E s) (G s)).bind body=.ok (.nx (E (f s i))) (G (f s i))\/(tg (enc i) (E s) (G s)).bind body=.ok (.ct (E (f s i))) (G (f s i)))) :
  eJ tg body ((LK n).map enc) (E s) (G s)=.ok (.nx (E ((LK n).foldl f s))) (G ((LK n).foldl f s))/\I n ((LK n).foldl f s):=by
 have key:∀(k:Nat) (xs:List Nat) (s:σ),(∀j x,xs[j]?=some x->x=k+j/\x<n)->I k s->eJ tg body (xs.map enc) (E s) (G s)=.ok (.nx (E (xs.foldl f s))) (G (xs.foldl f s))/\I (k+xs.length) (xs.foldl f s):=by
  intro k xs
  induction xs generalizing k with
  | nil=>intro s _ i;exact⟨rfl,i⟩
  | cons x xs ih=>
   intro s hx i
   obtain⟨h1,h2⟩:=hx 0 x rfl
   subst h1
   obtain⟨i1,e⟩:=st x s h2 i
   obtain⟨e2,i2⟩:=ih (x+1) (f s x) (fun j y hj=>by have:=hx (j+1) y hj;lia) i1
   refine⟨?_,by rw[Mi];grind⟩
   rw[LW,eJ,<- bG]
   rcases e with e | e<;>rw[e]<;>exact e2
 have hr:∀j x,(LK n)[j]?=some x->x=0+j/\x<n:=fun j x hj=>by
  grind
 have:=key 0 (LK n) s hr i0
 simp_all
theorem BY {σ:Type} (n) (E:σ->En) (G:σ->Hh) (f) (I:Nat->σ->Prop) (s) (i0:I 0 s)
  (st:∀i s,i<n->I i s->I (i+1) (f s i)/\((tg (.int (i:Nat)) (E s) (G s)).bind body=.ok (.nx (E (f s i))) (G (f s i))\/(tg (.int (i:Nat)) (E s) (G s)).bind body=.ok (.ct (E (f s i))) (G (f s i)))) :
  eJ tg body (bC 0 n) (E s) (G s)=.ok (.nx (E ((LK n).foldl f s))) (G ((LK n).foldl f s))/\I n ((LK n).foldl f s):=by
 rw[cX]
 exact Dy (fun(i:Nat)=>D.int i) n E G f I s i0 st
theorem vd {c:MT}{b:MS} (n:Nat) (E:Nat->En) (G:Nat->Hh) (hc:∀i,i<n->c (E i) (G i)=.ok true (G i)) (hb:∀i,i<n->b (E i) (G i)=.ok (.nx (E (i+1))) (G (i+1))) (he:c (E n) (G n)=.ok false (G n)) :
  ∀(f:Nat),n<f->gg c b f (E 0) (G 0)=.ok (.nx (E n)) (G n):=by
 have key:∀(k i f:Nat),i+k=n->k<f->gg c b f (E i) (G i)=.ok (.nx (E n)) (G n):=by
  intro k
  induction k with
  | zero=>
   intro i f hi hf
   obtain⟨f,rfl⟩:∃g,f=g+1:=⟨f - 1,by lia⟩
   have:i=n:=by lia
   subst this
   rw[gg,he];rfl
  | succ k ih=>
   intro i f hi hf
   obtain⟨f,rfl⟩:∃g,f=g+1:=⟨f - 1,by lia⟩
   rw[gg,hc i (by lia),cu,hb i (by lia)]
   exact ih (i+1) f (by lia) (by lia)
 simp_all
noncomputable def Wf (h:Hh):Prop:=h.all (qD h.length)=true
mutual
theorem ya {j k:Nat} (h:j<=k):∀(d:D),iL j d=true->iL k d=true
 | .non,_=>rfl | .bl _,_=>rfl | .int _,_=>rfl | .str _,_=>rfl | .fn _,_=>rfl | .edic,_=>rfl | .exc _ _,_=>rfl
 | .clo _ ds,e=>by simp only[iL] at e ⊢;exact dq h ds e
 | .ref n,e=>by simp only[iL,decide_eq_true_eq] at e ⊢;lia
 | .tup ds,e=>by simp only[iL] at e ⊢;exact dq h ds e
 | .frl ds,e=>by simp only[iL] at e ⊢;exact dq h ds e
 | .scr ds,e=>by simp only[iL] at e ⊢;exact dq h ds e
theorem dq {j k:Nat} (h:j<=k):∀(ds:List D),cn j ds=true->cn k ds=true
 | [],_=>rfl
 | d::ds,e=>by
  simp only[cn,MC] at e ⊢
  exact⟨ya h d e.1,dq h ds e.2⟩
end
theorem yu (h:j<=k) (o) (e:qD j o=true):qD k o=true:=by
 cases o with
 | lst ds=>exact dq h ds e
 | set n=>rfl
 | dic kvs=>exact dq h _ e
 | dit kvs=>exact dq h _ e
theorem kg {k:Nat}:∀{ds:List D},(∀d∈ds,iL k d=true)->cn k ds=true
 | [],_=>rfl
 | d::ds,h=>by simp only[cn,MC];exact⟨h d LL,kg fun e he=>h e (td _ he)⟩
@[simp] theorem pB {X:Type}{f:X->D}{xs:List X} (h:∀x,iL k (f x)=true):cn k (xs.map f)=true:=kg fun d hd=>by
 grind
@[simp] theorem l9 {ns:List Int}:cn k (ns.map D.int)=true:=pB fun _=>rfl
theorem Wf.nil:Wf []:=rfl
theorem Wf.app (w:Wf h) (l:qD (h.length+1) o=true):Wf (h++[o]):=by
 unfold Wf at w ⊢
 rw[List.all_append,Mn]
 simp only[NP,QR,QD,MC]
 refine⟨?_,l⟩
 rw[L4] at w ⊢
 exact fun x hx=>yu (Pc _) x (w x hx)
noncomputable def deep:Nat->D->Bool
 | 0,_=>false
 | f+1,d=>match d with
  | .ref _=>false
  | .scr _=>false
  | .tup ds=>ds.all (deep f)
  | .frl ds=>ds.all (deep f)
  | .clo _ ds=>cn 0 ds
  | _=>true
theorem jw {f:D->Option D}:∀{ds:List D},(∀d∈ds,f d=some d)->kP f ds=some ds
 | [],_=>rfl
 | d::ds,h=>by simp only[kP,h d LL,jw fun e he=>h e (td _ he)]
theorem gG {k:Nat}{h:Hh}:∀(f:Nat) (d:D),deep f d=true->gB k h f d=some d
 | 0,_,e=>by cases e
 | f+1,d,e=>by
  unfold deep at e
  cases d with
  | ref n=>cases e
  | scr n=>cases e
  | tup ds=>simp only[L4] at e;show Q_ D.tup (kP (gB k h f) ds)=_;rw[jw fun d hd=>gG f d (e d hd)];rfl
  | frl ds=>simp only[L4] at e;show Q_ D.frl (kP (gB k h f) ds)=_;rw[jw fun d hd=>gG f d (e d hd)];rfl
  | clo g ds=>show(if cn 0 ds=true then some (D.clo g ds) else none)=_;simp_all
  | _=>rfl
theorem fH (w:Wf h) (e:deep 8 d=true):cV h d (h++t)=.ok d h:=by
 unfold cV
 rw[O0 rfl,if_pos (show h.all (qD h.length)=true from w),gG 8 d e]
theorem yS {t:Hh} (w:Wf h) (e:ds.all (deep 7)=true):cV h (.ref h.length) (h++.lst ds::t)=.ok (.frl ds) h:=by
 unfold cV
 rw[O0 rfl,if_pos (show h.all (qD h.length)=true from w)]
 have:gB h.length (h++.lst ds::t) 8 (.ref h.length)=some (.frl ds):=by
  unfold gB
  simp only[MN,f_]
  rw[L4] at e
  rw[jw fun d hd=>gG 7 d (e d hd)];rfl
 rw[this]
@[simp] theorem Ig:deep (f+1) (.int i)=true:=rfl
@[simp] theorem Jw:deep (f+1) (.bl i)=true:=rfl
@[simp] theorem IF:deep (f+1) (.str i)=true:=rfl
@[simp] theorem H0:deep (f+1) .non=true:=rfl
@[simp] theorem GR:deep (f+1) .edic=true:=rfl
@[simp] theorem HB:deep (f+1) (.tup ds)=ds.all (deep f):=rfl
@[simp] theorem IU:deep (f+1) (.frl ds)=ds.all (deep f):=rfl
end
noncomputable def Ok (r:R β) (Q:β->Hh->Prop):Prop:=∃b h,r=.ok b h/\Q b h
section
variable {β γ:Type}{Q:β->Hh->Prop}{h h1 h2:Hh}
theorem Ok.mono {r:R β}{Q':β->Hh->Prop} (o:Ok r Q) (q:∀b h,Q b h->Q' b h):Ok r Q':=let ⟨b,h,e,z⟩:=o;⟨b,h,e,q b h z⟩
end
theorem qJ {X:Type}{tg:D->En->Hh->R En}{body:MS}{QS:Fl->Hh->Prop} (enc:X->D) (I:En->Hh->Prop) :
  ∀(xs:List X) (env:En) (h:Hh),I env h->(∀x e h,x∈xs->I e h->Ok ((tg (enc x) e h).bind body) fun fl h2=>match fl with
   | .nx e=>I e h2
   | .ct e=>I e h2
   | .bk e=>QS (.nx e) h2
   | .rt d=>QS (.rt d) h2)->(∀e h,I e h->QS (.nx e) h)->Ok (eJ tg body (xs.map enc) env h) QS
 | [],env,h,i,_,q=>⟨_,_,rfl,q _ _ i⟩
 | x::xs,env,h,i,st,q=>by
  obtain⟨fl,h2,e,z⟩:=st x env h LL i
  rw[LW,eJ,<- bG,e]
  cases fl with
  | nx e'=>exact qJ enc I xs e' h2 z (fun y e h hy=>st y e h (td _ hy)) q
  | ct e'=>exact qJ enc I xs e' h2 z (fun y e h hy=>st y e h (td _ hy)) q
  | bk e=>exact⟨_,_,rfl,z⟩
  | rt d=>exact⟨_,_,rfl,z⟩
end L2.FE
namespace L2.FE
open PySem PySem.Spec PyProof.Rows
noncomputable def Ee (h:Hh) (n:Nat):Option (List (Key × D)):=match h[n]? with
 | some (.dic kvs)=>some kvs
 | _=>none
noncomputable def zt:List (Key × D)->Key->Option D
 | [],_=>none
 | p::r,k=>if p.1=k then some p.2 else zt r k
noncomputable abbrev PD (K:gV) (g:GG) (α:List Addr) (H:Hp):List (Key × D)->List (Key × V)->Prop:=Paired (fun(a:Key × D) (b:Key × V)=>a.1=b.1/\aJ K g α H a.2 b.2)
section
variable {K:gV}{g:GG}{α:List Addr}{H:Hp}{h:Hh}
theorem aU.dic (r:aU K g α H h) (e:Ee h n=some kvs) (hp:α[n]?=some p):∃kws,H p=some (.dK kws)/\PD K g α H kvs kws:=by
 unfold Ee at e
 cases eo:h[n]? with
 | none=>simp_all
 | some o=>
  rw[eo] at e
  cases o with
  | dic k=>cases e;exact r.here n p _ hp eo
  | _=>cases e
theorem PD.val (k:Key):∀{kvs:List (Key × D)}{kws:List (Key × V)},PD K g α H kvs kws->(zt kvs k=none/\rg kws k=none)\/∃d v,zt kvs k=some d/\rg kws k=some v/\aJ K g α H d v
 | _,_,.nil=>.inl ⟨rfl,rfl⟩
 | p::r,q::t,.cons c rr=>by
  by_cases e:p.1=k
  ·exact .inr ⟨p.2,q.2,if_pos e,rL (c.1 ▸ e),c.2⟩
  ·rw[show zt (p::r) k=zt r k from if_neg e,sk (c.1 ▸ e)]
   exact PD.val k rr
theorem PD.ext (e:Ext K α H α' H') (r:PD K g α H kvs kws):PD K g α' H' kvs kws:=Paired.II e.toEx0 r
theorem aR.dic (w:aR K g α H Q (.ref h.length) (h++[.dic kvs])) (r:aU K g α H h) (rs:PD K g α H kvs kws) (hp:H p=none):Q (.ref p) (upd H p (.dK kws)):=by
 have x:=Ext.push (K:=K) (α:=α) (o:=.dK kws) hp
 exact w _ _ _ x (r.push hp ⟨_,a8,rs.ext x⟩) (.ref (by rw[<- r.len];simp))
end
section
variable {X:Cx}{g:GG}{ε:EE}{o i e f:Expr}{mo mi me mf:ME}{pos:Pos}
noncomputable def lE (ns:List Int):Int:=ns.getD (argBest (fun i j=>decide (ns.getD i 0 > ns.getD j 0)) (ns.length - 1)) 0
theorem oI (hc:X.calm=true):bJ X (.builtin "max") (fun vs H Q=>∃p ns,vs=[.ref p]/\SqL X.K H p (ns.map V.int)/\0<ns.length/\Q (.int (lE ns)) H):=by
 intro pins s σ H xs us Q I r h
 obtain⟨p,ns,rfl,hq,hpos,q⟩:=h
 obtain⟨u,rfl,rx⟩:=vals1 r
 cases rx
 have hh:X.A.in1.handled=none:=I.ok.hd hc
 obtain⟨its,rv,pl,hz⟩:=I.list hq
 have hl:its.toArray.size=ns.length:=by rw[Mb,<- rv.length,LQ]
 have val:∀i v,its.toArray[i]?=some v->∃t:Tok,v=Ol (ns.getD i 0) t:=fun i v e=>by
  obtain⟨x,hx,rxv⟩:=rv.get' (show its[i]?=some v by simp_all)
  rw[Me] at hx
  cases en:ns[i]? with
  | none=>simp_all
  | some z=>
   rw[en] at hx
   cases hx
   obtain⟨t,e⟩:=rxv
   simp_all
 have plt:p<s.heap.objs.size:=by obtain⟨o,e,_⟩:=pl.isList;exact LI e
 have hne:=LZ plt
 refine call_max_walk (P4 pl.isList ?_)
 refine⟨s.heap.objs.size,_,_,its.toArray.size,_,_,_,rfl,Walks.list hh s.heap.objs.size p hne its.toArray,⟨⟨_,LN _ rfl,rfl,rfl⟩,?_⟩,fun b hb=>?_,by lia,CmpOf.ints_gt (fun i=>ns.getD i 0) val,fun v h' tk hv hk=>?_⟩
 ·exact pl.isList.at fun o e=>ox _ e
 ·simp at hb
  rcases hb with rfl | rfl
  ·simp
  ·exact Ql plt (LI (LN _ rfl))
 ·obtain⟨t,rfl⟩:=val _ _ hv
  refine⟨.int (lE ns),H,?_,⟨t,by rw[hl];rfl⟩,q⟩
  exact I.kept fun b u e=>hk b u (by simp;exact LZ (LI e)) (ox _ e)
noncomputable def iZ:List D->Hh->R D:=fun ds h=>match ds with
 | [d]=>match gm d h with
  | some ds=>match intsOf ds with
   | some ns=>if 0<ns.length then .ok (.int (lE ns)) h else .bad
   | none=>.bad
  | none=>.bad
 | _=>.bad
theorem xF {K:gV}:kF K g ε iZ (fun vs H Q=>∃p ns,vs=[.ref p]/\SqL K H p (ns.map V.int)/\0<ns.length/\Q (.int (lE ns)) H):=by
 intro α H h a x Q r ra w
 obtain⟨d,v,rfl,rfl,rd⟩:=kz (fun d _ _ _=>rfl) (fun _=>rfl) ra w
 unfold iZ at w
 simp only at w
 cases e:gm d h with
 | none=>rw[e] at w;exact w.elim
 | some ds=>
  rw[e] at w
  simp only at w
  cases e2:intsOf ds with
  | none=>rw[e2] at w;exact w.elim
  | some ns=>
   rw[e2] at w
   obtain⟨hl,w⟩:=WQ.eT w
   obtain⟨p,vs,rfl,hv,rs⟩:=pV r rd e
   have e3:=eQ e2
   subst e3
   rw[rs.xw] at hv
   exact⟨p,ns,rfl,.inl hv,hl,aR.now w r (.int _)⟩
end
end L2.FE
namespace L2
open PySem PySem.Spec PyProof.Rows
structure Gn (h h':Heap):Prop where
 up:h.UpToSlots h'
 there:∀b o,h.get? b=some o->∃o',h'.get? b=some o'
theorem Gn.trans {h h1 h2:Heap} (a:Gn h h1) (b:Gn h1 h2):Gn h h2:=⟨a.up.trans b.up,fun c o q=>let ⟨_,q'⟩:=a.there c o q;b.there c _ q'⟩
structure Fly (B:Heap) (l) (e) (C) (dc) (fl) (h):Prop where
 stays:B.StaysIn h
 new:B.get? e=none
 fr:h.FunFrames B l
 obj:∃oe ws T oT ts,h.get? e=some oe/\oe.cls=C/\oe.dict=dc/\oe.data=.fields ws/\ws[1]?=some (.ref T)/\B.get? T=none/\T≠e/\h.get? T=some oT/\oT.data=.fields ts/\ts[3]?=some fl
theorem Fly.there (x:Fly B l e C dc fl h):∃oe ws,h.get? e=some oe/\oe.cls=C/\oe.dict=dc/\oe.data=.fields ws:=by
 obtain⟨oe,ws,T,oT,ts,a,b,c,d,_⟩:=x.obj
 simp_all
noncomputable def Arr (B:Heap) (l:List Env) (e:Addr) (C:LM) (dc:Option Addr) (h:Heap):Prop:=
 (B.StaysIn h/\B.get? e=none/\h.FunFrames B l/\∃oe ws,h.get? e=some oe/\oe.cls=C/\oe.dict=dc/\oe.data=.fields ws/\ws[1]?=some .none)\/Fly B l e C dc .none h
theorem Arr.stays (x:Arr B l e C dc h):B.StaysIn h:=x.elim (·.1) (·.stays)
theorem Arr.new (x:Arr B l e C dc h):B.get? e=none:=x.elim (·.2.1) (·.new)
theorem Arr.fr (x:Arr B l e C dc h):h.FunFrames B l:=x.elim (·.2.2.1) (·.fr)
end L2
namespace L2.FE
open PySem PySem.Spec PyProof.Rows
noncomputable def noR:R β->R β
 | .ok b h=>.ok b h
 | _=>.bad
@[simp] theorem Kg (b:β) (h):noR (.ok b h)=.ok b h:=rfl
noncomputable def up (m:En->Hh->R β):En->Hh->R β:=fun env h=>noR (m env h)
theorem FH {K:gV}{k:β->Hh->Prop} (w:WQ K g ε α H (noR r) k):WQ K g E00 α H r k:=by
 cases r with
 | ok b h=>exact w
 | err x h=>exact w.elim
 | bad=>exact w.elim
theorem us1 {P:List LM->Prop} (hl:us.length=1) (h:∀a,P [a]):P us:=by cases us with | nil=>cases hl | cons a us=>simp_all
theorem us2 {P:List LM->Prop} (hl:us.length=2) (h:∀a b,P [a,b]):P us:=by cases us with | nil=>cases hl | cons a us=>exact us1 (P:=fun us=>P (a::us)) (Rm.inj hl) (h a)
theorem us3 {P:List LM->Prop} (hl:us.length=3) (h:∀a b c,P [a,b,c]):P us:=by cases us with | nil=>cases hl | cons a us=>exact us2 (P:=fun us=>P (a::us)) (Rm.inj hl) (h a)
theorem IB {ps:List Str} (hl:us.length=1) (h:∀a:LM,bindArgs fd ⟨[a],[]⟩=pure (ps.zip [a])):bindArgs fd ⟨us,[]⟩=pure (ps.zip us):=us1 (P:=fun us=>bindArgs fd ⟨us,[]⟩=pure (ps.zip us)) hl h
theorem CP {ps:List Str} (hl:us.length=2) (h:∀a b:LM,bindArgs fd ⟨[a,b],[]⟩=pure (ps.zip [a,b])):bindArgs fd ⟨us,[]⟩=pure (ps.zip us):=us2 (P:=fun us=>bindArgs fd ⟨us,[]⟩=pure (ps.zip us)) hl h
theorem C2 {ps:List Str} (hl:us.length=3) (h:∀a b c:LM,bindArgs fd ⟨[a,b,c],[]⟩=pure (ps.zip [a,b,c])):bindArgs fd ⟨us,[]⟩=pure (ps.zip us):=us3 (P:=fun us=>bindArgs fd ⟨us,[]⟩=pure (ps.zip us)) hl h
end L2.FE
namespace L2.Srt
open PySem PySem.W PyProof.Rows
section
variable {n:Nat}{key:Nat->Int}
structure Pm (n) (p:Array Nat):Prop where
 size:p.size=n
 perm:p.Perm (LK n).toArray
theorem Pm.lt (h:Pm n p) (hi:i<n):p.getD i 0<n:=by
 have hi':i<p.size:=by rw[h.size];exact hi
 have e:p.getD i 0=p[i]:=by simp[hi']
 rw[e]
 have:=h.perm.mem_iff.mp (Mp hi')
 simp_all
variable (inj:∀i j,i<n->j<n->key i=key j->i=j)
include inj
omit inj in
omit inj in
omit inj in
omit inj in
omit inj in
omit inj in
end
end L2.Srt
namespace L2.Srt
open PySem PySem.W PyProof.Rows PySem.Calls
section
variable {prog:Mc}{w:MU}{A:MY}{E:LM->LP->Prop}{s:LP}{a:Addr}{vs:List LM}{κ:Ox}
noncomputable def bM (h:Heap) (a:Addr) (vs:List LM):Heap:=((h.update a (Ob fun _=>(#[]:Array LM))).push (seqObj "tuple" vs.toArray 0)).push (seqObj "list" #[] 0)
end
section
variable {prog:Mc}{w:MU}{A:MY}{E:LM->LP->Prop}{s:LP}{vs:List LM}
noncomputable def bF (h:Heap) (vs:List LM):Heap:=((h.push (seqObj "list" #[] 0)).update h.objs.size (Ob (·++vs.toArray))).push (seqObj "list" vs.toArray 0)
theorem xG (q:h.get? b=some o):(bF h vs).get? b=some o:=by
 have hsz:((h.push (seqObj "list" #[] 0)).update h.objs.size (Ob (·++vs.toArray))).objs.size=h.objs.size+1:=by simp
 have hlt:=LI q
 unfold bF
 rw[Heap.get?_push_ne _ _ _ (by grind),Heap.get?_update_ne _ _ _ _ (LZ hlt),Heap.get?_push_ne _ _ _ (LZ hlt)]
 exact q
theorem xJ (hn:b≠a) (q:h.get? b=some o):(bM h a vs).get? b=some o:=by
 exact ox _ (ox _ (by rw[Heap.get?_update_ne _ _ _ _ hn];exact q))
inductive Prs (h:Heap):List LM->List (Int × Int)->Prop
 | nil:Prs h [] []
 | cons {t u:Tok} {x y:Int} {vs:List LM} {ps:List (Int × Int)}:h.get? a=some o->o.cls=.type "tuple" -> o.data=.seq #[.int x t,.int y u] k->Prs h vs ps->Prs h (.ref a::vs) ((x,y)::ps)
theorem Prs.len (r:Prs h vs ps):vs.length=ps.length:=by
 induction r with
 | nil=>rfl
 | cons _ _ _ _ ih=>simp[ih]
end
end L2.Srt
namespace L2
open PySem PySem.Spec PyProof.Rows L2.Srt
inductive PrV (K) (H):List V->List (Int × Int)->Prop
 | nil:PrV K H [] []
 | cons:SqT K H a [.int x,.int y]->PrV K H xs ps->PrV K H (.ref a::xs) ((x,y)::ps)
section
variable {X:Cx}
theorem PrV.len {K:gV} (r:PrV K H xs ps):xs.length=ps.length:=by
 induction r with
 | nil=>rfl
 | cons _ _ ih=>simp[ih]
theorem o8 {xs:List V}{us:List LM} (r:Vals xs us):∀(l:List Nat),(∀i∈l,i<xs.length)->Vals (l.map fun i=>xs.getD i .non) (l.map fun i=>us.getD i N7)
 | [],_=>.nil
 | i::l,h=>by
  refine .cons ?_ (o8 r l fun j hj=>h j (td _ hj))
  have hi:i<xs.length:=h i LL
  have hu:i<us.length:=by rw[<- r.length];exact hi
  obtain⟨y,e3,ry⟩:=r.get' (LU hu)
  simp_all
end
end L2
namespace L2.FE
open PySem PySem.Spec PyProof.Rows L2.Srt
section
variable {X:Cx}{g:GG}{ε:EE}{K:gV}
theorem xy {α:List Addr}{H:Hp}:∀{ds:List D}{xs:List V},ax K g α H ds xs->∀(i:Nat),i<ds.length->aJ K g α H (ds.getD i .non) (xs.getD i .non)
 | _,_,.nil,i,h=>by simp at h
 | _,_,.cons a b,0,_=>a
 | _,_,.cons a b,i+1,h=>by simpa using xy b i (by simp_all)
theorem rP {α:List Addr}{H:Hp}{ds:List D}{xs:List V} (r:ax K g α H ds xs):∀(l:List Nat),(∀i∈l,i<ds.length)->ax K g α H (l.map fun i=>ds.getD i .non) (l.map fun i=>xs.getD i .non)
 | [],_=>.nil
 | i::l,h=>.cons (xy r i (h i LL)) (rP r l fun j hj=>h j (td _ hj))
end
end L2.FE
namespace L2.Srt
open PySem PySem.W PyProof.Rows PySem.Calls
section
variable {prog:Mc}{w:MU}{A:MY}{E:LM->LP->Prop}{s:LP}{a:Addr}{vs:List LM}
theorem nP {n:Nat}{P:PySem.Fin->LP->Prop} (ho:s.heap.get? a=some (seqObj "list" vs.toArray n)) (h1:vs.length<2) (h:P (.done (.ret .none)) { s with heap:=sortedHeap s.heap a vs vs.toArray }) :
  wpAny (model prog w) A (NC.«list.sort» ⟨[.ref a],[]⟩) P E s:=by
 obtain⟨e1,ho1⟩:∃e1,(s.heap.update a (Ob fun _=>(#[]:Array LM))).get? a=some (seqObj "list" #[] e1):=⟨_,get?_update_seq ho fun _=>#[]⟩
 have hm:(bM s.heap a vs).get? a=some (seqObj "list" #[] e1):=ox _ (ox _ ho1)
 rw[list_sort_plain]
 refine k3 (QT ho rfl ?_)
 refine k3 (P8 ho rfl ?_ (by rw[Mb,MV];lia) (Nj _))
 refine k3 (Qv ho1 rfl ?_)
 refine k3 (Qt ?_ (by show vs.length<=_;rw[MV];lia))
 refine k3 (P9 ?_ (Nj _))
 refine NO ?_
 have hn2:vs.toArray.size<2:=by rw[Mb];exact h1
 rw[if_pos hn2,if_pos hn2]
 refine k3 (LJ ?_)
 refine k3 (LJ ?_)
 dsimp only
 have hout:(arrOf (QL general' (vs.toArray.zip vs.toArray) #[] 7 none)).map (·.2)=vs.toArray:=by
  apply Array.toList_inj.mp
  simp[List.map_snd_zip]
 rw[hout]
 refine k3 (Qv hm rfl ?_)
 refine k3 (P8 hm rfl ?_ (Nj _) (by rw[MV];lia))
 simp only[bne_self_eq_false]
 exact LJ h
theorem vW (hl:s.heap.IsList l vs.toArray) (h1:vs.length<2) (h:Q (.ref (s.heap.objs.size+1)) { s with heap:=sortedAll s.heap vs vs.toArray }) :
  wpAny (model prog w) A (call (.builtin "sorted") [.ref l]) Q E s:=by
 refine Calls.call_function_entry kind_sorted plain_sorted entry_sorted (args_sorted1 _) ?_
 refine k3 (LJ ?_)
 refine k3 (collect_list hl ?_ (by rw[MV];lia))
 refine k3 (P9 ?_ (by rw[MV];lia))
 have hsz:((s.heap.push (seqObj "list" #[] 0)).update s.heap.objs.size (Ob (·++vs.toArray))).objs.size=s.heap.objs.size+1:=by
  simp
 have hoL:(bF s.heap vs).get? (s.heap.objs.size+1)=some (seqObj "list" vs.toArray 0):=by
  unfold bF;rw[<- hsz];exact LN _ rfl
 rw[hsz]
 refine k3 (NO (Ny slot_list_sort ⟨_,hoL,rfl⟩ entry_list_sort (nP (s:={ s with heap:=bF s.heap vs }) hoL h1 ⟨_,rfl,?_⟩) (args_list_sort _)))
 exact LJ ⟨_,rfl,h⟩
end
end L2.Srt
namespace L2
open PySem PySem.Spec PyProof.Rows L2.Srt
section
variable {X:Cx}
theorem vY:bJ X (.builtin "sorted") (fun vs H Q=>∃p xs,vs=[.ref p]/\SqL X.K H p xs/\xs.length<2/\∀l,H l=none->Q (.ref l) (upd H l (.lst xs))):=by
 intro pins s σ H xs0 us Q I r h
 obtain⟨p,xs,rfl,hq,h1,q⟩:=h
 obtain⟨u,rfl,rx⟩:=vals1 r
 cases rx
 obtain⟨its,rv,pl,hz⟩:=I.list hq
 have hl:=rv.length
 refine vW pl.isList (by lia) ?_
 obtain⟨k,hk⟩:=QU s.heap its its.toArray
 have hn:=I.hok.fresh (Pc _)
 have len:xs.length<=sizeLine:=by
  lia
 refine⟨.ref (s.heap.objs.size+1),upd H (s.heap.objs.size+1) (.lst xs),I.laid (fun _ _ z=>QE z) (Pc _) ⟨len,its,k,rv,?_⟩,rfl,q _ hn⟩
 rw[hk]
end
end L2
namespace L2.FE
open PySem PySem.Spec PyProof.Rows L2.Srt
noncomputable abbrev Cu (K:gV) (F:VK->VK):List V->Hp->VK->Prop:=fun vs H Q=>∃p xs,vs=[.ref p]/\SqL K H p xs/\xs.length<2/\∀l,H l=none->F Q (.ref l) (upd H l (.lst xs))
end L2.FE
namespace L2.FE
open PySem PySem.Spec PyProof.Rows
noncomputable def setOf (h:Hh) (n:Nat):Option (List Int):=match h[n]? with
 | some (.set ns)=>some ns
 | _=>none
section
variable {X:Cx}{g:GG}{ε:EE}{K:gV}
theorem aU.set (r:aU K g α H h) (e:setOf h n=some ns) (hp:α[n]?=some p):H p=some (.set (fun k=>ns.any (· == k)) ns.length):=by
 unfold setOf at e
 cases eo:h[n]? with
 | none=>simp_all
 | some o=>
  rw[eo] at e
  cases o with
  | set k=>cases e;exact r.here n p _ hp eo
  | _=>cases e
end
noncomputable def DO (h:Hh) (n:Nat):Option (List (List Key × D)):=match h[n]? with
 | some (.dit kvs)=>some kvs
 | _=>none
noncomputable def Bb:List (List Key × D)->List Key->Option D
 | [],_=>none
 | p::r,k=>if p.1=k then some p.2 else Bb r k
noncomputable abbrev PDT (K:gV) (g:GG) (α:List Addr) (H:Hp):List (List Key × D)->List (List Key × V)->Prop:=Paired (fun(a:List Key × D) (b:List Key × V)=>a.1=b.1/\aJ K g α H a.2 b.2)
section
variable {K:gV}{g:GG}{α:List Addr}{H:Hp}{h:Hh}
theorem aU.dit (r:aU K g α H h) (e:DO h n=some kvs) (hp:α[n]?=some p):∃kws,H p=some (.dT kws)/\PDT K g α H kvs kws:=by
 unfold DO at e
 cases eo:h[n]? with
 | none=>simp_all
 | some o=>
  rw[eo] at e
  cases o with
  | dit k=>cases e;exact r.here n p _ hp eo
  | _=>cases e
theorem PDT.val (k:List Key):∀{kvs:List (List Key × D)}{kws:List (List Key × V)},PDT K g α H kvs kws->(Bb kvs k=none/\rg kws k=none)\/∃d v,Bb kvs k=some d/\rg kws k=some v/\aJ K g α H d v
 | _,_,.nil=>.inl ⟨rfl,rfl⟩
 | p::r,q::t,.cons c rr=>by
  by_cases e:p.1=k
  ·exact .inr ⟨p.2,q.2,if_pos e,rL (c.1 ▸ e),c.2⟩
  ·rw[show Bb (p::r) k=Bb r k from if_neg e,sk (c.1 ▸ e)]
   exact PDT.val k rr
theorem PDT.ext (e:Ext K α H α' H') (r:PDT K g α H kvs kws):PDT K g α' H' kvs kws:=Paired.Ii e.toEx0 r
theorem aR.dit (w:aR K g α H Q (.ref h.length) (h++[.dit kvs])) (r:aU K g α H h) (rs:PDT K g α H kvs kws) (hp:H p=none):Q (.ref p) (upd H p (.dT kws)):=by
 have x:=Ext.push (K:=K) (α:=α) (o:=.dT kws) hp
 exact w _ _ _ x (r.push hp ⟨_,a8,rs.ext x⟩) (.ref (by rw[<- r.len];simp))
end
end L2.FE
namespace L2
open PySem PySem.Spec PyProof.Rows
noncomputable abbrev FJ (J:It) (ix:List Nat) (σ:St) (wi2:TI) (te:TE) (acc:Addr) (H1:Hp) (Q:VK):Prop:=
 ∃W:Nat->Nat->List V->Hp->Prop,(∃m,W 0 m [] (upd H1 acc (.lst [])))/\∀i m ys H,W i m ys H →
  (J.stop i H/\Q (.ref acc) H)\/(J.go i H/\∀σ0 x H',eE 2 ix σ σ0->J.yld i H x H'->wi2 (σ0.set 0 (some x)) H' fun J2 H2=>
   ∃U:Nat->Nat->List V->Hp->Prop,(∃m2,U 0 m2 ys H2)/\∀j m2 zs H,U j m2 zs H->(J2.stop j H/\∃m',m'<m/\W (i+1) m' zs H) ∨
    (J2.go j H/\∀y H',J2.yld j H y H'->te ((σ0.set 0 (some x)).set 1 (some y)) H' fun v H3=>∃ks,H3 acc=some (.lst ks)/\ks.length<sizeLine/\∃m',m'<m2/\U (j+1) m' (ks++[v]) (upd H3 acc (.lst (ks++[v])))))
noncomputable def kM (wi:TI) (ix:List Nat) (wi2:TI) (te:TE):TE:=fun σ H Q=>wi σ H fun J H1=>∀acc,H1 acc=none->FJ J ix σ wi2 te acc H1 Q
section
variable {prog:Mc}{w:MU}{A:MY}{R:Result->LP->Prop}{s:LP}{elt tg iter tg2 iter2:Expr}{scope:Pg}{pos:Pos}{it acc:LM}{env:Env}
noncomputable abbrev e2 (elt tg iter tg2 iter2:Expr) (scope:Pg) (pos:Pos):Expr:=.ListComp elt [⟨tg,iter,[],0⟩,⟨tg2,iter2,[],0⟩] scope pos
theorem AG:compTurn (e2 elt tg iter tg2 iter2 scope pos) 0 it acc env=(standAt iter.pos >>= fun _=>pyNext it >>= fun r=>match r with
  | none=>pure (.done .next)
  | some v=>letOwnedTupleGo tg it v >>= fun _=>assign tg env v >>= fun _=>
   eval iter2 env >>= fun x=>standAt iter2.pos >>= fun _=>foldedSetIterable iter2 env x >>= fun x=>holding [x] (pyIter x) >>= fun i2=>runOwn (.compStart (e2 elt tg iter tg2 iter2 scope pos) 1 i2 acc env) env >>= fun _=>
    again (.compLoop (e2 elt tg iter tg2 iter2 scope pos) 0 it acc env)):=by rfl
theorem DC:compTurn (e2 elt tg iter tg2 iter2 scope pos) 1 it acc env=(standAt iter2.pos >>= fun _=>pyNext it >>= fun r=>match r with
  | none=>pure (.done .next)
  | some v=>letOwnedTupleGo tg2 it v >>= fun _=>assign tg2 env v >>= fun _=>
   (eval elt env >>= fun x=>call (.builtin "list.append") [acc,x] >>= fun _=>pure ()) >>= fun _=>
    again (.compLoop (e2 elt tg iter tg2 iter2 scope pos) 1 it acc env)):=by rfl
theorem ux (I:Nat->LP->Prop)
  (turn:∀n s,I n s->wpAny (model prog w) A (pyNext it) (fun r s₁=>match r with
   | none=>R (.ok .next) s₁
   | some v=>wpAny (model prog w) A (letOwnedTupleGo tg2 it v) (fun _ s₁=>wpAny (model prog w) A (assign tg2 env v) (fun _ s₂=>
     wpAny (model prog w) A (eval elt env) (fun x s₄=>wpAny (model prog w) A (call (.builtin "list.append") [acc,x]) (fun _ s₅=>∃m,m<n/\I m s₅) (fun _ _=>False) s₄) (fun _ _=>False) s₂) (fun _ _=>False) s₁) (fun _ _=>False) s₁) (fun _ _=>False) s)
  (n) (h:I n s):codeAny (model prog w) A (.compLoop (e2 elt tg iter tg2 iter2 scope pos) 1 it acc env) R s:=by
 refine QP rfl I (fun n s hI=>?_) n h
 refine Q5 ?_
 rw[DC]
 refine P5 ?_
 refine k3 (Og (k3 (thn (turn n s hI) fun r s₁ h₁=>?_)))
 cases r with
 | none=>exact LJ h₁
 | some v=>exact k3 (thn h₁ fun _ s₂ h₂=>k3 (thn h₂ fun _ s₃ h₃=>k3 (k3 (thn h₃ fun x s₄ h₄=>k3 (thn h₄ fun _ s₅ h₅=>LJ (LJ ⟨rfl,h₅⟩))))))
theorem pf (I:Nat->LP->Prop) (hf:∀x,foldedSetIterable iter2 env x=pure x)
  (turn:∀n s,I n s->wpAny (model prog w) A (pyNext it) (fun r s₁=>match r with
   | none=>R (.ok .next) s₁
   | some v=>wpAny (model prog w) A (letOwnedTupleGo tg it v) (fun _ s₁=>wpAny (model prog w) A (assign tg env v) (fun _ s₂=>
     wpAny (model prog w) A (eval iter2 env) (fun x s₃=>wpAny (model prog w) A (pyIter x) (fun i2 s₄=>
      codeAny (model prog w) A (.compStart (e2 elt tg iter tg2 iter2 scope pos) 1 i2 acc env) (fun r s'=>match r with
       | .ok _=>∃m,m<n/\I m s'
       | .error _=>False) s₄) (fun _ _=>False) s₃) (fun _ _=>False) s₂) (fun _ _=>False) s₁) (fun _ _=>False) s₁) (fun _ _=>False) s)
  (n) (h:I n s):codeAny (model prog w) A (.compLoop (e2 elt tg iter tg2 iter2 scope pos) 0 it acc env) R s:=by
 refine QP rfl I (fun n s hI=>?_) n h
 refine Q5 ?_
 rw[AG]
 refine P5 ?_
 refine k3 (Og (k3 (thn (turn n s hI) fun r s₁ h₁=>?_)))
 cases r with
 | none=>exact LJ h₁
 | some v=>
  refine k3 (thn h₁ fun _ s₂ h₂=>k3 (thn h₂ fun _ s₃ h₃=>k3 (thn h₃ fun x s₄ h₄=>k3 (Og (k3 (wpAny_of_eq (hf x) (k3 (NO (thn h₄ fun i2 s₅ h₅=>?_)))))))))
  refine k3 (wpAny_runOwn (Of h₅ fun r s' hr=>?_))
  cases r with
  | ok f=>exact LJ ⟨rfl,hr⟩
  | error e=>simp_all
theorem sM (h0:codeAny (model prog w) A (.compLoop (e2 elt tg iter tg2 iter2 scope pos) 1 it acc env) R s)
  (h:wpAny (model prog w) A (pyIter it) (fun i' s'=>codeAny (model prog w) A (.compLoop (e2 elt tg iter tg2 iter2 scope pos) 1 i' acc env) R s') (fun _ _=>False) s) :
  codeAny (model prog w) A (.compStart (e2 elt tg iter tg2 iter2 scope pos) 1 it acc env) R s:=by
 refine codeAny_of_tree ?_
 refine wpAny_notedAt ?_
 refine P5 ?_
 refine k3 (wpAny_askSetting ?_)
 split
 ·exact LJ ⟨rfl,h0⟩
 ·exact k3 (Py (k3 (Og (k3 (thn h fun i' s' h'=>LJ ⟨rfl,h'⟩)))))
end
theorem yW {X:Cx}{use:Option (LM->Sem Unit)}{Q2:LM->LP->Prop}{pins:List (Addr × Obj)}{s:LP}{σ:St}{H:Hp}{Q:VK}{elt iter tg iter2 tg2:Expr}{tn':List Str}{scope osc:Pg}{pos:Pos}{wi wi2:TI}{te:TE} (ix:List Nat) (N':List Str)
  (hxe:X.xe=fun _ _=>False) (hc:X.calm=true) (ho:X.env.scope=osc) (hN:N'=tn'++ix.map fun i=>(X.N[i]?).getD ("" : Str)) (hnd:N'.Nodup)
  (hall:(∀y∈scope.names,y.2=.free->osc.names.lookup y.1=some .cell)/\(∀y∈scope.names,y.2≠.cell)/\scope.kind=.function/\(∀y∈scope.names,y.2=.local->scope.names.lookup y.1=some .local)/\(∀y∈N'.drop tn'.length,scope.names.lookup y=some .free))
  (hi:PI X tg iter wi) (hg:∀cl C au av fp,PG (aL X scope cl C au av fp N') tg (dD 0)) (hi2:∀cl C au av fp,PI (aL X scope cl C au av fp N') tg2 iter2 wi2) (hg2:∀cl C au av fp,PG (aL X scope cl C au av fp N') tg2 (dD 1))
  (he:∀cl C au av fp,PE (aL X scope cl C au av fp N') elt te)
  (hs:∀x,foldedSetIterable iter X.env x=pure x) (hs2:∀env x,foldedSetIterable iter2 env x=pure x) (h2n:tn'.length=2) (I:Inv X pins σ H s) (h:kM wi ix wi2 te σ H Q)
  (hfin:∀(acc C:Addr) (H5:Hp) (s5:LP) (o:Obj),Inv X (pins++[(C,o)]) σ H5 s5->(∀x c,X.env.cells.lookup x=some c->c≠C)->X.au.heap.objs.size<=C->(∀p∈X.pn++pins,p.1≠C)->(∃m,∀h':Heap,h'.get? C=some o->h'.Ns C m)->Q (.ref acc) H5->compPost (model X.prog X.w) X.A X.xe use Q2 (.ref acc) C (.ok .next) s5) :
  wpAny (model X.prog X.w) X.A (comprehension (.ListComp elt [⟨tg,iter,[],0⟩,⟨tg2,iter2,[],0⟩] scope pos) scope X.env (firstIterPos [⟨tg,iter,[],0⟩,⟨tg2,iter2,[],0⟩] pos) (newList []) false (eval iter X.env) use) Q2 X.xe s:=by
 obtain⟨hfr,hcell,hkind,hnames,hcap⟩:=hall
 subst ho
 have outc:=fun y hy q=>hfr y hy q
 obtain⟨cl,hclos,hcl1,hcl2⟩:=gp fun y hy q=>I.ok.has y.1 (.inl (outc y hy q))
 refine OU rfl hs hclos hkind hnames (thn (hi pins s σ H _ I h) fun v s1 h1=>thn h1 fun itv s2 h2=>?_)
 obtain⟨it,fp,tn,J,H2,e,I2,T,st2,f2,rest⟩:=h2
 subst e
 have hf2:=I2.hok.fresh (LH _)
 obtain⟨W,⟨m0,w0⟩,turn⟩:=rest s2.heap.objs.size hf2
 refine Nl ?_
 have I3:=I2.AX (t':=s2.toks) .nil (Nj _)
 have keep3:∀b o,s2.heap.get? b=some o->(s2.heap.push { cls:=.type "list", dict:=none,data:=.seq ([]:List LM).toArray }).get? b=some o:=fun b o q=>ox _ q
 have fp3:=T.obj _ _ st2
 have st3:=T.keep _ _ _ st2 fun b _ o q=>keep3 b o q
 have fpn:∀b∈fp,(upd H2 s2.heap.objs.size (HO.lst [])) b=none:=fun b hb=>by
  obtain⟨o,q,_⟩:=fp3 b hb
  rw[aK (LZ (LI q))]
  exact(f2 b hb).1
 revert I3 keep3 st3 fpn w0
 generalize hS3:({ s2 with heap:=s2.heap.push { cls:=.type "list", dict:=none,data:=.seq ([]:List LM).toArray } }:LP)=s3
 generalize hH3:upd H2 s2.heap.objs.size (HO.lst [])=H3
 intro w0 I3 keep3 st3 fpn
 generalize s2.heap.objs.size=acc at *
 have e3:s2.heap.push { cls:=.type "list", dict:=none,data:=.seq ([]:List LM).toArray }=s3.heap:=by rw[<- hS3]
 have keep3':∀b o,s2.heap.get? b=some o->s3.heap.get? b=some o:=fun b o q=>by rw[<- e3];exact keep3 b o q
 have st3':tn 0 s3.heap:=by rw[<- e3];exact st3
 refine OH hcell (by intro y hy;simp at hy) (fun h₁ hns₁ hsb₁=>?_) hkind
 have hC:s3.heap.objs.size=s3.heap.objs.size:=rfl
 have keep4:∀b o,s3.heap.get? b=some o->h₁.get? b=some o:=fun b o q=>hsb₁.extBut b o (LZ (LI q)) (ox _ q)
 have fpC:∀b∈fp,b≠s3.heap.objs.size:=fun b hb=>by
  obtain⟨o,q,_⟩:=fp3 b hb
  exact LZ (LI (keep3' b o q))
 -- the block's context
 generalize hX':aL X scope cl s3.heap.objs.size s3 H3 fp N'=X'
 have hXp:X'.prog=X.prog:=by rw[<- hX'];rfl
 have hXw:X'.w=X.w:=by rw[<- hX'];rfl
 have hXK:X'.K=X.K:=by rw[<- hX'];rfl
 have hXA:X'.A=X.A:=by rw[<- hX'];rfl
 have hXe:X'.env=compEnvC scope cl s3.heap.objs.size X.env:=by rw[<- hX'];rfl
 have hXc:X'.calm=true:=by rw[<- hX'];exact hc
 have hXx:X'.xe=fun _ _=>False:=by rw[<- hX'];exact hxe
 have hXf:X'.fs=frs X.stack:=by rw[<- hX'];rfl
 have hXex:X'.ex=fp:=by rw[<- hX'];rfl
 have hXN:X'.N=N':=by rw[<- hX'];rfl
 have hXs:X'.au=s3:=by rw[<- hX'];rfl
 have hXH:X'.av=H3:=by rw[<- hX'];rfl
 have hXpn:X'.pn=[]:=by rw[<- hX'];rfl
 have okX:X'.Ok:=by
  rw[<- hX']
  refine⟨I3.ok.mod,hkind,I3.ok.glob,I3.ok.blt,LH _,fun a b c p q=>I3.ok.inj a b c (hcl1 a c p) (hcl1 b c q),fun y hy=>?_,fun _ _ z=>(by cases z),I3.ok.hd,I3.ok.frames,.inl rfl,fun b hb=>⟨fpC b hb,fun y c p=>(f2 b hb).2.2.2.2.1 y c (hcl1 y c p)⟩,
   I3.bs,L0 I3.ok.bsz I3.sz,fun b o p hb=>?_,fun b hb z=>?_,I3.stack,I3.lS⟩
  ·have hy':(relabel scope X.env).names.lookup y=some .cell\/(relabel scope X.env).names.lookup y=some .free:=hy
   have free:scope.names.lookup y=some .free->∃c,cl.lookup y=some c:=fun q=>hcl2 y (lookup_mem q)
   rcases hy' with q | q
   ·rcases cR q with z | ⟨z,_⟩
    ·exact absurd rfl (hcell _ (lookup_mem z))
    ·exact free z
   ·rcases cR q with z | ⟨_,z⟩
    ·exact free z
    ·cases z
  ·rcases(f2 b hb).2.2.2.1 with z | z
   ·exact I3.ok.vo b o p z
   ·exact absurd (Ma (LI p) (L0 I3.ok.bsz z)) (MN _)
  ·rcases LR.mp (I3.iF b z) with q | q
   ·exact(f2 b hb).2.1 q
   ·exact(f2 b hb).2.2.1 q
 have I4:∀tk,Inv X' [] (jv tn'.length ix σ) H3 { s3 with heap:=h₁,toks:=tk }:=fun tk=>by
  have hloc:=I3.loc
  refine⟨okX,by rw[hXs],I3.bare,?_,⟨fun y=>([]:List (Str × LM)).reverse.lookup y,by rw[hXe];exact hns₁,fun i y v e1 e2 e3=>?_⟩,fun y c p=>?_,?_,fun y c p=>?_,fun p hp=>?_,?_,?_⟩
  ·rw[hXf,hXex,hXH,hXs];exact Un.kept keep4
  ·rw[hXN,hN] at e1
   by_cases hit':i<tn'.length
   ·exfalso
    unfold jv at e2
    rw[LV (by simpa using hit'),Oj,if_pos hit'] at e2
    cases e2
   ·have e10:N'[i]?=some y:=by rw[hN];exact e1
    obtain⟨j,rfl⟩:∃j,i=tn'.length+j:=⟨i - tn'.length,by lia⟩
    have e1':(ix.map fun i=>(X.N[i]?).getD ("" : Str))[j]?=some y:=by
     rw[LY (by lia)] at e1
     rw[show tn'.length+j - tn'.length=j by lia] at e1
     exact e1
    have e2':(ix.map fun i=>(σ[i]?).join)[j]?=some (some v):=by
     unfold jv at e2
     rw[LY (by simp)] at e2
     simpa using e2
    rw[Me] at e1' e2'
    cases hj:ix[j]? with
    | none=>rw[hj] at e1';cases e1'
    | some i0=>
     rw[hj] at e1' e2'
     have e1'':(X.N[i0]?).getD ("" : Str)=y:=by simpa using e1'
     have e2'':(σ[i0]?).join=some v:=by simpa using e2'
     have hsv:σ[i0]?=some (some v):=by
      cases q:σ[i0]? with
      | none=>rw[q] at e2'';cases e2''
      | some z=>rw[q] at e2'';have:z=some v:=by simpa using e2''
                rw[this]
     have hlt:i0<X.N.length:=by
      have:=(Mu.mp hsv).1
      rw[I3.len] at this;exact this
     have hNy:X.N[i0]?=some y:=by
      rw[LU hlt] at e1'' ⊢
      simpa using e1''
     have hyt:y∈N'.drop tn'.length:=by
      refine Ms (i:=j) ?_
      rw[N2];exact e10
     have hyf:=hcap y hyt
     have hyc:=outc (y,.free) (lookup_mem hyf) rfl
     obtain⟨m,hn,hl⟩:=hloc
     obtain⟨u,r,l⟩:=hl i0 y v hNy hsv (.inr (.inl hyc))
     refine⟨u,r,?_⟩
     rcases l with⟨k1,_⟩ | ⟨_,c,p,z⟩
     ·have hyc':X.env.kindOf y=some .cell:=hyc
      rw[k1] at hyc';cases hyc'
     ·obtain⟨c',p'⟩:=hcl2 y (lookup_mem hyf)
      have pc:c'=c:=by
       have:=hcl1 y c' p'
       rw[p] at this;cases this;rfl
      subst pc
      refine .inr ⟨.inl ?_,c',by rw[hXe];exact p',?_⟩
      ·rw[hXe];exact cI I3.ok.kind hyf hyc
      ·obtain⟨o,q1,q2⟩:=z
       exact⟨o,keep4 c' o q1,q2⟩
  ·rw[hXe] at p
   obtain⟨v,o,q1,q2⟩:=I3.cell y c (hcl1 y c p)
   exact⟨v,o,keep4 c o q1,q2⟩
  ·rw[hXe];exact I3.hok.fresh (LH _)
  ·rw[hXe] at p;exact I3.gf y c (hcl1 y c p)
  ·rw[hXpn] at hp;cases hp
  ·rw[hXp,hXw];exact I3.hok.kept keep4
  ·rw[hXN,hN];simp[jv]
 -- the loop
 have stat:∀{H':Hp},(∀b∈fp,H' b=none)->∀b∈fp,jf X' [] H' b:=fun hn b hb=>by
  refine⟨hn b hb,by rw[hXe];exact fpC b hb,?_,.inl (by rw[hXex];exact hb),fun y c p=>?_,fun p hp=>by rw[hXpn] at hp;cases hp⟩
  ·rw[hXf];intro z
   rcases LR.mp (I3.iF b z) with q | q
   ·exact(f2 b hb).2.1 q
   ·exact(f2 b hb).2.2.1 q
  ·rw[hXe] at p;exact(f2 b hb).2.2.2.2.1 y c (hcl1 y c p)
 have fin:∀{H5:Hp} {s5:LP} {σ5:St},Inv X' [] σ5 H5 s5->Q (.ref acc) H5->compPost (model X.prog X.w) X.A X.xe use Q2 (.ref acc) s3.heap.objs.size (.ok .next) s5:=fun{H5 s5 σ5} I5 q=>by
  obtain⟨m,hn,_⟩:=I5.loc
  rw[hXe] at hn
  have hn':s5.heap.Ns s3.heap.objs.size m:=hn
  obtain⟨oC,esC,epC,hC1,hC2,hC3⟩:=hn'
  have u5:=I5.base
  rw[hXf,hXex,hXH,hXs] at u5
  have fr:H5 s3.heap.objs.size=none:=by have:=I5.free;rw[hXe] at this;exact this
  have hok5:=I5.hok
  rw[hXp,hXw] at hok5
  have hos:s5.os=s3.os:=by have:=I5.os;rw[hXs] at this;exact this
  have IX:Inv X pins σ H5 s5:=I3.oQ (s':=s5) (ch:=fp) hos u5 hok5 I5.bare (fun b hb=>by
   obtain⟨g0,g1,g2,g3,g4,g5⟩:=f2 b hb
   exact⟨g3,g1,g4,g5⟩)
  have cC:∀x c,X.env.cells.lookup x=some c->c≠s3.heap.objs.size:=fun x c z e=>by
   obtain⟨v,q⟩:=I3.cell x c z
   exact absurd q.lt (by rw[e];exact MN _)
  have pC:∀p∈X.pn++pins,p.1≠s3.heap.objs.size:=fun p hp e=>by
   have:=LI (I3.pin p hp).1
   rw[e] at this
   exact MN _ this
  refine hfin acc s3.heap.objs.size H5 s5 oC (IX.iS fun p hp=>?_) cC I3.sz pC ⟨m,fun h' z=>⟨oC,esC,epC,z,hC2,hC3⟩⟩ q
  rcases Ml.mp hp with z | z
  ·exact IX.pin p (tv _ z)
  ·have e:=LX.mp z
   subst e
   refine⟨hC1,fr,NR I3.lt,I3.Cb (LH _),fun v e=>?_⟩
   have e':oC.data=.cell v:=e
   rw[hC2] at e';cases e'
 have IsC:∀{σ0:St} {i:Nat} {v:Option V},eE 2 ix σ σ0->i<2->eE 2 ix σ (σ0.set i v):=fun{σ0 i v} ⟨ts,hl,e⟩ hi=>⟨ts.set i v,by rw[List.length_set];exact hl,by rw[e,List.set_append_left _ _ (by rw[hl];exact hi)]⟩
 have loop:∀tk,codeAny (model X.prog X.w) X.A (.compLoop (.ListComp elt [⟨tg,iter,[],0⟩,⟨tg2,iter2,[],0⟩] scope pos) 0 (.ref it) (.ref acc) (compEnvC scope cl s3.heap.objs.size X.env))
   (compPost (model X.prog X.w) X.A X.xe use Q2 (.ref acc) s3.heap.objs.size) { s3 with heap:=h₁,toks:=tk }:=fun tk=>by
  refine pf (fun n s'=>∃i ys σ' H',Inv X' [] σ' H' s'/\eE 2 ix σ σ'/\tn i s'.heap/\(∀b∈fp,H' b=none)/\W i n ys H') (hs2 _) (fun n s5 h5=>?_) m0
   ⟨0,[],jv tn'.length ix σ,H3,I4 tk,⟨_,by rw[Pj];exact h2n,rfl⟩,T.keep _ _ _ st3' fun b _ o q=>keep4 b o q,fpn,w0⟩
  obtain⟨i,ys,σ5,H5,I5,hσ,st5,fr5,w5⟩:=h5
  rcases turn i n ys H5 w5 with⟨stop,q⟩ | ⟨go,step⟩
  ·have d:=T.done X' hXp hXw hXK hXc i [] s5 σ5 H5 (fun _ _=>False) I5 (stat fr5) st5 stop
   rw[hXA] at d
   refine thn d fun r s6 ⟨hr,I6⟩=>?_
   subst hr
   exact fin I6 q
  ·have d:=T.item X' hXp hXw hXK hXc i [] s5 σ5 H5 (fun _ _=>False) I5 (stat fr5) st5 go
   rw[hXA] at d
   refine thn d fun r s6 ⟨u,hr,h6⟩=>?_
   subst hr
   refine thn h6 fun _ s7 ⟨z,H7,I7,r7,y7,st7,fr7⟩=>?_
   have I7':=I7.pinned (stat fr7) (T.obj _ _ st7)
   have again:∀{H9:Hp} {s9:LP} {ys9:List V} {σ9:St},Inv X' ([]++fK fp s7.heap) σ9 H9 s9->eE 2 ix σ σ9->(∃m',m'<n/\W (i+1) m' ys9 H9)->∃m',m'<n/\∃i ys σ' H',Inv X' [] σ' H' s9/\eE 2 ix σ σ'/\tn i s9.heap/\(∀b∈fp,H' b=none)/\W i m' ys H':=fun{H9 s9 ys9 σ9} I9 c9 ⟨m',hm,w9⟩=>by
    refine⟨m',hm,i+1,ys9,_,H9,I9.eO,c9,T.keep _ _ _ st7 fun b hb o e=>(I9.pin (b,o) (tv _ (tv _ (bW hb e)))).1,fun b hb=>?_,w9⟩
    obtain⟨o,e,_⟩:=T.obj _ _ st7 b hb
    exact(I9.pin (b,o) (tv _ (tv _ (bW hb e)))).2.1
   have he':=he cl s3.heap.objs.size s3 H3 fp
   have hg':=hg cl s3.heap.objs.size s3 H3 fp
   have hg2':=hg2 cl s3.heap.objs.size s3 H3 fp
   have hi2':=hi2 cl s3.heap.objs.size s3 H3 fp
   rw[hX'] at he' hg' hg2' hi2'
   rw[<- hXe]
   have a0:=hg' _ s7 σ5 H7 z u (fun σ2 Hn=>σ2=σ5.set 0 (some z)/\Hn=H7) I7' r7 ⟨rfl,rfl⟩
   rw[hXp,hXw,hXA,hXx] at a0
   refine thn a0 fun _ s8 ⟨σ8,H8,I8,e8,e8'⟩=>?_
   subst e8 e8'
   have a1:=hi2' _ s8 _ H8 _ I8 (step σ5 z H8 hσ y7)
   rw[hXp,hXw,hXA,hXx] at a1
   refine thn a1 fun v2 s9 h9=>thn h9 fun itv2 s10 h10=>?_
   obtain⟨it2,fp2,tn2,J2,H10,e10,I10,T2,st10,f10,V,⟨m2,v0⟩,turn2⟩:=h10
   subst e10
   rw[hXp,hXw,hXK] at T2
   have stat2:∀{H':Hp},(∀b∈fp2,H' b=none)->∀b∈fp2,jf X' ([]++fK fp s7.heap) H' b:=fun hn b hb=>⟨hn b hb,(f10 b hb).2⟩
   have inner:codeAny (model X.prog X.w) X.A (.compLoop (.ListComp elt [⟨tg,iter,[],0⟩,⟨tg2,iter2,[],0⟩] scope pos) 1 (.ref it2) (.ref acc) X'.env) (fun r s'=>match r with
     | .ok _=>∃m',m'<n/\∃i ys σ' H',Inv X' [] σ' H' s'/\eE 2 ix σ σ'/\tn i s'.heap/\(∀b∈fp,H' b=none)/\W i m' ys H'
     | .error _=>False) s10:=by
    refine ux (fun m s'=>∃j zs uo H',Inv X' ([]++fK fp s7.heap) ((σ5.set 0 (some z)).set 1 uo) H' s'/\tn2 j s'.heap/\(∀b∈fp2,H' b=none)/\V j m zs H') (fun m s11 h11=>?_) m2 ⟨0,ys,((σ5.set 0 (some z))[1]?).join,H10,?_,st10,fun b hb=>(f10 b hb).1,v0⟩
    ·obtain⟨j,zs,uo,H11,I11,st11,fr11,v11⟩:=h11
     rcases turn2 j m zs H11 v11 with⟨stop2,q2⟩ | ⟨go2,step2⟩
     ·have d:=T2.done X' hXp hXw hXK hXc j _ s11 _ H11 (fun _ _=>False) I11 (stat2 fr11) st11 stop2
      rw[hXA] at d
      refine thn d fun r s12 ⟨hr,I12⟩=>?_
      subst hr
      exact again I12 (IsC (IsC hσ (by decide)) (by decide)) q2
     ·have d:=T2.item X' hXp hXw hXK hXc j _ s11 _ H11 (fun _ _=>False) I11 (stat2 fr11) st11 go2
      rw[hXA] at d
      refine thn d fun r s12 ⟨u2,hr,h12⟩=>?_
      subst hr
      refine thn h12 fun _ s13 ⟨z2,H13,I13,r13,y13,st13,fr13⟩=>?_
      have I13':=I13.pinned (stat2 fr13) (T2.obj _ _ st13)
      have b0:=hg2' _ s13 _ H13 z2 u2 (fun σ2 Hn=>σ2=((σ5.set 0 (some z)).set 1 uo).set 1 (some z2)/\Hn=H13) I13' r13 ⟨rfl,rfl⟩
      rw[hXp,hXw,hXA,hXx] at b0
      refine thn b0 fun _ s14 ⟨σ14,H14,I14,e14,e14'⟩=>?_
      subst e14 e14'
      rw[List.set_set] at I14
      have b1:=he' _ s14 _ H14 _ I14 (step2 z2 H14 y13)
      rw[hXp,hXw,hXA,hXx] at b1
      refine thn b1 fun yv s15 ⟨y,H15,I15,r15,ks,q1,q2,q3⟩=>?_
      have b2:=gH (X:=X') _ s15 _ H15 (.ref acc) [y] (.ref acc) [yv] (fun _ Hq=>∃m',m'<m/\V (j+1) m' (ks++[y]) Hq) I15 rfl (.cons r15 .nil) ⟨acc,ks,y,rfl,rfl,q1,q2,q3⟩
      rw[hXp,hXw,hXA,hXx] at b2
      refine thn b2 fun _ s16 ⟨_,H16,I16,_,m',hm',w16⟩=>?_
      refine⟨m',hm',j+1,ks++[y],some z2,H16,I16.eO,T2.keep _ _ _ st13 fun b hb o e=>(I16.pin (b,o) (tv _ (tv _ (bW hb e)))).1,fun b hb=>?_,w16⟩
      obtain⟨o,e,_⟩:=T2.obj _ _ st13 b hb
      exact(I16.pin (b,o) (tv _ (tv _ (bW hb e)))).2.1
    ·have:(σ5.set 0 (some z)).set 1 ((σ5.set 0 (some z))[1]?).join=σ5.set 0 (some z):=by
      obtain⟨ts,hl,e⟩:=hσ
      match ts,hl with
      | [p,q],_=>rw[e];rfl
     rw[this];exact I10
   refine sM inner ?_
   exact T2.self _ 0 _ _ _ st10 inner
 refine O5 (loop _) ?_
 exact T.self _ 0 _ _ _ (T.keep _ _ _ st3' fun b _ o q=>keep4 b o q) (loop _)
section
variable {X:Cx}{elt iter tg iter2 tg2:Expr}{scope osc:Pg}{pos:Pos}{wi wi2:TI}{te:TE}
theorem sE {py spos:Pos} (ix) (tn' N') (h2n:tn'.length=2)
  (hxe:X.xe=fun _ _=>False) (hc:X.calm=true) (ho:X.env.scope=osc) (hN:N'=tn'++ix.map fun i=>(X.N[i]?).getD ("" : Str)) (hnd:N'.Nodup)
  (hall:(∀y∈scope.names,y.2=.free->osc.names.lookup y.1=some .cell)/\(∀y∈scope.names,y.2≠.cell)/\scope.kind=.function/\(∀y∈scope.names,y.2=.local->scope.names.lookup y.1=some .local)/\(∀y∈N'.drop tn'.length,scope.names.lookup y=some .free))
  (hi:PI X tg iter wi) (hg:∀cl C au av fp,PG (aL X scope cl C au av fp N') tg (dD 0)) (hi2:∀cl C au av fp,PI (aL X scope cl C au av fp N') tg2 iter2 wi2) (hg2:∀cl C au av fp,PG (aL X scope cl C au av fp N') tg2 (dD 1))
  (he:∀cl C au av fp,PE (aL X scope cl C au av fp N') elt te)
  (hNN:X.N.Nodup) (hy:X.N[i]?=some y) (hl:X.env.scope.names.lookup y=some .local)
  (hsw:swapsWith (.ListComp elt [⟨tg,iter,[],0⟩,⟨tg2,iter2,[],0⟩] scope pos) (some (.Name y py)) spos.line X.env=pure true:=by rfl)
  (hs:∀x,foldedSetIterable iter X.env x=pure x:=by intro _;rfl) (hs2:∀env x,foldedSetIterable iter2 env x=pure x:=by intro _ _;rfl) :
  PS X (.Assign [.Name y py] (.ListComp elt [⟨tg,iter,[],0⟩,⟨tg2,iter2,[],0⟩] scope pos) spos) (Ce (kM wi ix wi2 te) (dD i)):=by
 intro pins s σ H D I h
 rw[exec_Assign_Name_used _ _ _ _ hsw]
 refine k3 (Og ?_)
 refine k3 ?_
 refine k3 (yW ix N' hxe hc ho hN hnd hall hi hg hi2 hg2 he hs hs2 h2n I h fun acc C H5 s5 o I5 cC hC pC hm q=>?_)
 obtain⟨m,hm⟩:=hm
 refine P1 (iM (v:=.ref acc) I5 hNN hy (.inl hl) rfl (fun s6 I6=>?_) (.inr hl))
 refine⟨m,hm _ (I6.pin (C,o) (tv _ (tv _ (LX.mpr rfl)))).1,fun h' hs'=>?_⟩
 exact LJ (LJ ⟨_,H5,I6.CW cC hC pC hs',q⟩)
end
end L2
namespace L2.FE
open PySem PySem.Spec PyProof.Rows
noncomputable def dB (ix:List Nat) (env:En) (a b:Option D):En:=a::b::ix.map fun i=>(env[i]?).join
noncomputable def u7 (n0:Nat) (y:D) (h:Hh):R Unit:=match aH h n0 with
 | some ds=>if ds.length<1000000 then .ok () (h.set n0 (.lst (ds++[y]))) else .bad
 | none=>.bad
noncomputable def nI (n0:Nat) (rd:Rdr) (te:ME) (ff:D->En):Nat->Nat->Hh->R Unit
 | k,j,h=>match rd h j with
  | none=>.bad
  | some none=>.ok () h
  | some (some e)=>match k with
   | 0=>.bad
   | k+1=>(te (ff e) h).bind fun y h2=>(u7 n0 y h2).bind fun _ h3=>nI n0 rd te ff k (j+1) h3
noncomputable def jy (n0:Nat) (rd:Rdr) (mi2:MI) (te:ME) (ff:Option D->Option D->En):Nat->Nat->Hh->R Unit
 | k,i,h=>match rd h i with
  | none=>.bad
  | some none=>.ok () h
  | some (some d)=>match k with
   | 0=>.bad
   | k+1=>(mi2 (ff (some d) none) h).bind fun sr h1=>(nI n0 sr.rdr te (fun e=>ff (some d) (some e)) (sr.fuel h1) 0 h1).bind fun _ h2=>jy n0 rd mi2 te ff k (i+1) h2
noncomputable def jt (mi:MI) (ix:List Nat) (mi2:MI) (te:ME):ME:=fun env h=>(mi env h).bind fun sr h1=>(jy h1.length sr.rdr mi2 te (dB ix env) (sr.fuel h1) 0 (h1++[.lst []])).bind fun _ h2=>.ok (.ref h1.length) h2
section
variable {K:gV}{g:GG}
theorem jI {α:List Addr}{H:Hp}{env:En}{σ:St}{ix:List Nat}{a b:Option D}{p q:Option V} (s:ik K g α H env σ) (ra:∀d,a=some d->∃v,p=some v/\aJ K g α H d v) (rb:∀d,b=some d->∃v,q=some v/\aJ K g α H d v):ik K g α H (dB ix env a b) (p::q::ix.map fun i=>(σ[i]?).join):=by
 refine⟨by simp[dB],fun i e h=>?_⟩
 match i with
 | 0=>
  have:a=some e:=by simpa [dB] using h
  simp_all
 | 1=>
  have:b=some e:=by simpa [dB] using h
  simp_all
 | i+2=>
  have h':(ix.map fun i=>(env[i]?).join)[i]?=some (some e):=by assumption
  rw[Me] at h'
  cases ei:ix[i]? with
  | none=>simp_all
  | some j=>
   rw[ei] at h'
   have h2:(env[j]?).join=some e:=by simp_all
   cases ej:env[j]? with
   | none=>simp_all
   | some oe=>
    rw[ej] at h2
    have h3:oe=some e:=by simp_all
    subst h3
    obtain⟨u,eu,ru⟩:=s.vars j e ej
    simp_all
theorem iT {α α':List Addr}{n:Nat}{p:Addr}{H H':Hp} (e:Ext K α H α' H') (h:α[n]?=some p):α'[n]?=some p:=by
 obtain⟨l,rfl⟩:=e.toEx0.pre
 rw[LV]
 ·exact h
 ·by_cases hl:n<α.length
  ·exact hl
  ·rw[MJ (by lia)] at h;cases h
theorem yz {mi mi2:MI}{te:ME}{ix:List Nat}{σ:St}{H:Hp}{Q:VK} (t:tM K g E00 (jt mi ix mi2 te) σ H Q):kM (tMI K g E00 mi) ix (tMI K g E00 mi2) (tM K g E00 te) σ H Q:=by
 obtain⟨α,env,h,s,w⟩:=t
 refine⟨α,env,h,s,w.bind.mono fun sr h1 _ w1 J H1 α1 e1 hr1 rd=>fun acc hacc=>?_⟩
 have s1:=s.ext e1 hr1
 have xp:Ext K α1 H1 (α1++[acc]) (upd H1 acc (.lst [])):=Ext.push hacc
 have hrp:aU K g (α1++[acc]) (upd H1 acc (.lst [])) (h1++[.lst []]):=hr1.push hacc ⟨[],a8,.nil⟩
 have p0:(α1++[acc])[h1.length]?=some acc:=by rw[<- hr1.len];simp
 refine⟨fun i m ys H=>∃α h,Ext K α1 H1 α H/\α[h1.length]?=some acc/\aU K g α H h ∧
  WQ K g E00 α1 H1 ((jy h1.length sr.rdr mi2 te (dB ix env) m i h).bind fun _ h2=>.ok (.ref h1.length) h2) (aR K g α1 H1 Q),
  ⟨sr.fuel h1,_,_,xp,p0,hrp,w1.post e1⟩,?_⟩
 rintro i m ys H2 ⟨α2,h2,x2,p2,hr2,w2⟩
 have q:=rd α2 H2 h2 x2 hr2 i
 unfold jy at w2
 cases e:sr.rdr h2 i with
 | none=>rw[e] at w2;exact w2.elim
 | some od=>
  rw[e] at w2 q
  cases od with
  | none=>exact .inl ⟨q,(show aR K g α1 H1 Q (.ref h1.length) h2 from w2) _ _ _ x2 hr2 (.ref p2)⟩
  | some d=>
   cases m with
   | zero=>exact w2.elim
   | succ m=>
    rw[bG] at w2
    have w3:=WQ.bind (show WQ K g E00 α1 H1 ((mi2 (dB ix env (some d) none) h2).bind _) _ from w2)
    refine .inr ⟨q.1,fun σ0 x H3 hcap y=>?_⟩
    obtain⟨ts,hl,hσ0⟩:=hcap
    match ts,hl with
    | [v0,q0],_=>
    subst hσ0
    obtain⟨α3,x3,hr3,rx⟩:=q.2 x H3 y
    have s3:c_ K g α3 H3 (dB ix env (some d) none) (some x::q0::ix.map fun i=>(σ[i]?).join) h2:=⟨hr3,jI (s1.vs.ext (x2.trans x3)) (fun d' hd=>by simp_all) (fun d' hd=>by cases hd)⟩
    refine⟨α3,_,h2,s3,((w3.ext x2).ext x3).mono fun sr2 h4 _ w4 J2 H4 α4 x4 hr4 rd2=>?_⟩
    have x14:=x2.trans (x3.trans x4)
    have p4:=iT (x3.trans x4) p2
    refine⟨fun j m2 zs H=>∃α h,Ext K α4 H4 α H/\aU K g α H h ∧
     WQ K g E00 α1 H1 (((nI h1.length sr2.rdr te (fun e=>dB ix env (some d) (some e)) m2 j h).bind fun _ h2=>jy h1.length sr.rdr mi2 te (dB ix env) m (i+1) h2).bind fun _ h2=>.ok (.ref h1.length) h2) (aR K g α1 H1 Q),
     ⟨sr2.fuel h4,α4,h4,Ext.refl,hr4,w4⟩,?_⟩
    rintro j m2 zs H5 ⟨α5,h5,x5,hr5,w5⟩
    have q2:=rd2 α5 H5 h5 x5 hr5 j
    have p5:=iT x5 p4
    unfold nI at w5
    cases e2:sr2.rdr h5 j with
    | none=>rw[e2] at w5;exact w5.elim
    | some od2=>
     rw[e2] at w5 q2
     cases od2 with
     | none=>exact .inl ⟨q2,m,M7 _,α5,h5,x14.trans x5,p5,hr5,w5⟩
     | some d2=>
      cases m2 with
      | zero=>exact w5.elim
      | succ m2=>
       have w6:WQ K g E00 α1 H1 ((te (dB ix env (some d) (some d2)) h5).bind fun y h2=>(((u7 h1.length y h2).bind fun _ h3=>nI h1.length sr2.rdr te (fun e=>dB ix env (some d) (some e)) m2 (j+1) h3).bind fun _ h2=>jy h1.length sr.rdr mi2 te (dB ix env) m (i+1) h2).bind fun _ h2=>.ok (.ref h1.length) h2) (aR K g α1 H1 Q):=by
        have:=w5
        simp only[bG] at this ⊢
        lia
       refine .inr ⟨q2.1,fun yv H6 yy=>?_⟩
       obtain⟨α6,x6,hr6,ry⟩:=q2.2 yv H6 yy
       have s6:c_ K g α6 H6 (dB ix env (some d) (some d2)) (some x::some yv::ix.map fun i=>(σ[i]?).join) h5:=⟨hr6,jI (s1.vs.ext (x14.trans (x5.trans x6))) (fun d' hd=>by cases hd;exact⟨x,rfl,rx.ext (x4.trans (x5.trans x6))⟩) (fun d' hd=>by simp_all)⟩
       refine tM.use s6 ((WQ.bind w6).ext (x14.trans (x5.trans x6))) fun y h7 v7 H7 α7 x7 s7 r7 w7=>?_
       have p7:=iT (x6.trans x7) p5
       unfold u7 at w7
       cases el:aH h7 h1.length with
       | none=>rw[el] at w7;exact w7.elim
       | some ds=>
        rw[el] at w7
        dsimp only at w7
        by_cases hlen:ds.length<1000000
        ·rw[if_pos hlen] at w7
         obtain⟨vs,hv,rs⟩:=s7.heap.lst el p7
         have x:=Ext.write (o:=.lst (vs++[v7])) s7.heap p7
         exact⟨vs,hv,by rw[<- rs.length,MV];lia,m2,M7 _,α7,_,(x5.trans (x6.trans x7)).trans x,s7.heap.write (u':=.lst (ds++[y])) p7 ⟨_,a8,(rs.append (.cons r7 .nil)).ext x⟩,w7⟩
        ·rw[if_neg hlen] at w7;exact w7.elim
end
section
variable {X:Cx}{g:GG}
theorem vE {elt iter iter2:Expr}{x y z:Str}{px py pz:Pos}{scope osc:Pg}{pos spos:Pos}{mi mi2:MI}{te:ME}{i:Nat} (ix:List Nat) (N':List Str)
  (hxe:X.xe=fun _ _=>False) (hc:X.calm=true) (ho:X.env.scope=osc) (hN:N'=[x,y]++ix.map fun i=>(X.N[i]?).getD ("" : Str)) (hnd:N'.Nodup)
  (hall:(∀y∈scope.names,y.2=.free->osc.names.lookup y.1=some .cell)/\(∀y∈scope.names,y.2≠.cell)/\scope.kind=.function/\(∀y∈scope.names,y.2=.local->scope.names.lookup y.1=some .local)/\(∀z∈N'.drop [x,y].length,scope.names.lookup z=some .free))
  (hi:PI X (.Name x px) iter (tMI X.K g E00 mi))
  (hx:∀cl C au av fp,Loc (aL X scope cl C au av fp N').env.scope x/\(aL X scope cl C au av fp N').env.scope.names.lookup x=some .local) (hy:∀cl C au av fp,Loc (aL X scope cl C au av fp N').env.scope y/\(aL X scope cl C au av fp N').env.scope.names.lookup y=some .local)
  (hi2:∀cl C au av fp,PI (aL X scope cl C au av fp N') (.Name y py) iter2 (tMI X.K g E00 mi2))
  (he:∀cl C au av fp,PE (aL X scope cl C au av fp N') elt (tM X.K g E00 te))
  (hNN:X.N.Nodup) (hz:X.N[i]?=some z) (hl:X.env.scope.names.lookup z=some .local:=by rfl)
  (hsw:swapsWith (.ListComp elt [⟨.Name x px,iter,[],0⟩,⟨.Name y py,iter2,[],0⟩] scope pos) (some (.Name z pz)) spos.line X.env=pure true:=by rfl)
  (hs:∀x,foldedSetIterable iter X.env x=pure x:=by intro _;rfl) (hs2:∀env x,foldedSetIterable iter2 env x=pure x:=by intro _ _;rfl) :
  PS X (.Assign [.Name z pz] (.ListComp elt [⟨.Name x px,iter,[],0⟩,⟨.Name y py,iter2,[],0⟩] scope pos) spos) (tMS X.K g E00 (aV i (jt mi ix mi2 te))):=
 PS.imp (sE ix [x,y] N' rfl hxe hc ho hN hnd hall hi (fun cl C au av fp=>dU hnd (show N'[0]?=some x by rw[hN];rfl) (hx cl C au av fp).1 (.inr (hx cl C au av fp).2)) hi2 (fun cl C au av fp=>dU hnd (show N'[1]?=some y by rw[hN];rfl) (hy cl C au av fp).1 (.inr (hy cl C au av fp).2)) he hNN hz hl hsw hs hs2) fun E σ H ⟨α,env,h,s,w⟩=>yz (tM.use s w.bind fun d1 h1 v1 H1 α1 e1 s1 r1 w1=>(show cP X.K g α H E (.nx (env.set i (some d1))) h1 from w1) H1 α1 e1 s1.heap _ (s1.vs.set r1))
end
noncomputable def Bd (x:Str) (st:Stmt) (ps:List Str):Prop:=∀(kV doc pm:LM) (an:Option Addr) (cdv ct:LM) (us:List LM),us.length=ps.length->bindArgs (M0 x x (d6 st) (cA st) (ak st) .none kV doc pm an cdv ct) ⟨us,[]⟩=pure (ps.zip us)
section
variable {P:Mc}{w:MU}{K:gV}{mg:Str->Option LM}{base:Heap}{g:GG}{x:Str}{st:Stmt}{k:Nat}{N ps:List Str}{mb:MS}{m:MF}
theorem fsc {sc:Pg} (a:sc.kind=.function/\sc.isCoroutine=false/\sc.isGenerator=false) (b:(N.Nodup/\N.take ps.length=ps)/\(∀x∈ps,sc.names.lookup x=some .local\/sc.names.lookup x=some .cell)/\∀y∈sc.names,y.2≠.free):aF N ps sc:=⟨a.1,a.2.1,a.2.2,b.1.1,b.1.2,b.2.1,b.2.2⟩
theorem dO (D:aG K mg x st) (S:aF N ps (ak st)) (B:Bd x st ps)
  (hb:N.Nodup->∀(f:Addr) (cdv:LM) (A:MY) (outer:List Env) (s:LP) (H:Hp) (E:XK),eP k (A.deeper (envOfC x (ak st) s.heap.objs.size f cdv)) →
   PSs (jj CX0 P w K mg base N x (ak st) f cdv A outer s H E).nox (cA st) (tMS K g E00 mb)):Has P w K mg base g x (k+1) ps (b9 N.length mb):=
 let ⟨f,fd,hm,F⟩:=D
 ⟨f,fd,uS F S (hb S.nd f),F.kp,F.binds B,hm,dZ F⟩
theorem C8 (h:Has P w K mg base g x k ps m):Has P w K mg base g x k ps fun ds h=>(m ds h).bind (cV h):=let ⟨f,fd,a,b⟩:=h;⟨f,fd,qA a,b⟩
theorem bd1 {p:Str} (h:∀kV doc pm an cdv ct a,bindArgs (M0 x x (d6 st) (cA st) (ak st) .none kV doc pm an cdv ct) ⟨[a],[]⟩=pure ([p].zip [a])):Bd x st [p]:=fun _ _ _ _ _ _ us hl=>IB hl (h _ _ _ _ _ _)
theorem bd2 {p q:Str} (h:∀kV doc pm an cdv ct a b,bindArgs (M0 x x (d6 st) (cA st) (ak st) .none kV doc pm an cdv ct) ⟨[a,b],[]⟩=pure ([p,q].zip [a,b])):Bd x st [p,q]:=fun _ _ _ _ _ _ us hl=>CP hl (h _ _ _ _ _ _)
theorem bd3 {p q r:Str} (h:∀kV doc pm an cdv ct a b c,bindArgs (M0 x x (d6 st) (cA st) (ak st) .none kV doc pm an cdv ct) ⟨[a,b,c],[]⟩=pure ([p,q,r].zip [a,b,c])):Bd x st [p,q,r]:=fun _ _ _ _ _ _ us hl=>C2 hl (h _ _ _ _ _ _)
end
section
variable {X:Cx}{g:GG}{E:XK}{k j:Nat}{ps:List Str}{m:MF}{x:Str}{p pos:Pos}{e:Expr}{es:List Expr}{mr:MA}
theorem aY (F:Has X.prog X.w X.K X.mg X.base g x j ps m) (hr:eP k X.A) (ha:PA X (e::es) (tMA X.K g E00 mr)) (hlen:∀env h ds h',mr env h=.ok ds h'->ds.length=ps.length) (hj:j<=k:=by decide) (hg:Gl X x:=by rfl) (hdb:(x == ("__debug__" : Str))=false:=by decide) (he:starEach (e::es) X.env=(false,eval e X.env)::starEach es X.env:=by rfl) (hpl:(backTo pos (starEach es X.env)).any (·.1)=false:=by rfl) :
  PE X (.Call (.Name x p) (e::es) [] pos) (tM X.K g E00 (ah m mr)):=
 let ⟨_,_,G,hk,B,hm,_⟩:=F
 Cy (G.mono hj) hr hg hm hk B ha hlen hdb he hpl
end
end L2.FE
namespace L2
open PySem PySem.Spec PyProof.Rows
theorem u_ {X:Cx}{use:Option (LM->Sem Unit)}{Q2:LM->LP->Prop}{pins:List (Addr × Obj)}{s:LP}{σ:St}{H:Hp}{Q:VK}{elt iter tg iter2 tg2:Expr}{tn':List Str}{scope osc:Pg}{pos:Pos}{wi wi2:TI}{te:TE} (ix:List Nat) (N':List Str)
  (hc:X.calm=true) (ho:X.env.scope=osc) (hN:N'=tn'++ix.map fun i=>(X.N[i]?).getD ("" : Str)) (hnd:N'.Nodup)
  (hall:(∀y∈scope.names,y.2=.free->osc.names.lookup y.1=some .cell)/\(∀y∈scope.names,y.2≠.cell)/\scope.kind=.function/\(∀y∈scope.names,y.2=.local->scope.names.lookup y.1=some .local)/\(∀y∈N'.drop tn'.length,scope.names.lookup y=some .free))
  (hi:PI X tg iter wi) (hg:∀cl C au av fp,PG (aL X.nox scope cl C au av fp N') tg (dD 0)) (hi2:∀cl C au av fp,PI (aL X.nox scope cl C au av fp N') tg2 iter2 wi2) (hg2:∀cl C au av fp,PG (aL X.nox scope cl C au av fp N') tg2 (dD 1))
  (he:∀cl C au av fp,PE (aL X.nox scope cl C au av fp N') elt te)
  (hs:∀x,foldedSetIterable iter X.env x=pure x) (hs2:∀env x,foldedSetIterable iter2 env x=pure x) (h2n:tn'.length=2) (I:Inv X pins σ H s) (h:kM wi ix wi2 te σ H Q)
  (hfin:∀(acc C:Addr) (H5:Hp) (s5:LP) (o:Obj),Inv X (pins++[(C,o)]) σ H5 s5->(∀x c,X.env.cells.lookup x=some c->c≠C)->X.au.heap.objs.size<=C->(∀p∈X.pn++pins,p.1≠C)->(∃m,∀h':Heap,h'.get? C=some o->h'.Ns C m)->Q (.ref acc) H5->compPost (model X.prog X.w) X.A X.xe use Q2 (.ref acc) C (.ok .next) s5) :
  wpAny (model X.prog X.w) X.A (comprehension (.ListComp elt [⟨tg,iter,[],0⟩,⟨tg2,iter2,[],0⟩] scope pos) scope X.env (firstIterPos [⟨tg,iter,[],0⟩,⟨tg2,iter2,[],0⟩] pos) (newList []) false (eval iter X.env) use) Q2 X.xe s:=by
 obtain⟨hfr,hcell,hkind,hnames,hcap⟩:=hall
 subst ho
 have outc:=fun y hy q=>hfr y hy q
 obtain⟨cl,hclos,hcl1,hcl2⟩:=gp fun y hy q=>I.ok.has y.1 (.inl (outc y hy q))
 refine OU rfl hs hclos hkind hnames (thn (hi pins s σ H _ I h) fun v s1 h1=>thn h1 fun itv s2 h2=>?_)
 obtain⟨it,fp,tn,J,H2,e,I2,T,st2,f2,rest⟩:=h2
 subst e
 have hf2:=I2.hok.fresh (LH _)
 obtain⟨W,⟨m0,w0⟩,turn⟩:=rest s2.heap.objs.size hf2
 refine Nl ?_
 have I3:=I2.AX (t':=s2.toks) .nil (Nj _)
 have keep3:∀b o,s2.heap.get? b=some o->(s2.heap.push { cls:=.type "list", dict:=none,data:=.seq ([]:List LM).toArray }).get? b=some o:=fun b o q=>ox _ q
 have fp3:=T.obj _ _ st2
 have st3:=T.keep _ _ _ st2 fun b _ o q=>keep3 b o q
 have fpn:∀b∈fp,(upd H2 s2.heap.objs.size (HO.lst [])) b=none:=fun b hb=>by
  obtain⟨o,q,_⟩:=fp3 b hb
  rw[aK (LZ (LI q))]
  exact(f2 b hb).1
 revert I3 keep3 st3 fpn w0
 generalize hS3:({ s2 with heap:=s2.heap.push { cls:=.type "list", dict:=none,data:=.seq ([]:List LM).toArray } }:LP)=s3
 generalize hH3:upd H2 s2.heap.objs.size (HO.lst [])=H3
 intro w0 I3 keep3 st3 fpn
 have acc3:H3 s2.heap.objs.size=some (.lst []):=by rw[<- hH3];exact a8
 generalize s2.heap.objs.size=acc at *
 have e3:s2.heap.push { cls:=.type "list", dict:=none,data:=.seq ([]:List LM).toArray }=s3.heap:=by rw[<- hS3]
 have keep3':∀b o,s2.heap.get? b=some o->s3.heap.get? b=some o:=fun b o q=>by rw[<- e3];exact keep3 b o q
 have st3':tn 0 s3.heap:=by rw[<- e3];exact st3
 refine OH hcell (by intro y hy;simp at hy) (fun h₁ hns₁ hsb₁=>?_) hkind
 have hC:s3.heap.objs.size=s3.heap.objs.size:=rfl
 have keep4:∀b o,s3.heap.get? b=some o->h₁.get? b=some o:=fun b o q=>hsb₁.extBut b o (LZ (LI q)) (ox _ q)
 have fpC:∀b∈fp,b≠s3.heap.objs.size:=fun b hb=>by
  obtain⟨o,q,_⟩:=fp3 b hb
  exact LZ (LI (keep3' b o q))
 -- the block's context
 generalize hX':aL X.nox scope cl s3.heap.objs.size s3 H3 fp N'=X'
 have hXp:X'.prog=X.prog:=by rw[<- hX'];rfl
 have hXw:X'.w=X.w:=by rw[<- hX'];rfl
 have hXK:X'.K=X.K:=by rw[<- hX'];rfl
 have hXA:X'.A=X.A:=by rw[<- hX'];rfl
 have hXe:X'.env=compEnvC scope cl s3.heap.objs.size X.env:=by rw[<- hX'];rfl
 have hXc:X'.calm=true:=by rw[<- hX'];exact hc
 have hXx:X'.xe=fun _ _=>False:=by rw[<- hX'];rfl
 have hXf:X'.fs=frs X.stack:=by rw[<- hX'];rfl
 have hXex:X'.ex=fp:=by rw[<- hX'];rfl
 have hXN:X'.N=N':=by rw[<- hX'];rfl
 have hXs:X'.au=s3:=by rw[<- hX'];rfl
 have hXH:X'.av=H3:=by rw[<- hX'];rfl
 have hXpn:X'.pn=[]:=by rw[<- hX'];rfl
 have okX:X'.Ok:=by
  rw[<- hX']
  refine⟨I3.ok.mod,hkind,I3.ok.glob,I3.ok.blt,LH _,fun a b c p q=>I3.ok.inj a b c (hcl1 a c p) (hcl1 b c q),fun y hy=>?_,fun _ _ z=>(by cases z),I3.ok.hd,I3.ok.frames,.inl rfl,fun b hb=>⟨fpC b hb,fun y c p=>(f2 b hb).2.2.2.2.1 y c (hcl1 y c p)⟩,
   I3.bs,L0 I3.ok.bsz I3.sz,fun b o p hb=>?_,fun b hb z=>?_,I3.stack,I3.lS⟩
  ·have hy':(relabel scope X.env).names.lookup y=some .cell\/(relabel scope X.env).names.lookup y=some .free:=hy
   have free:scope.names.lookup y=some .free->∃c,cl.lookup y=some c:=fun q=>hcl2 y (lookup_mem q)
   rcases hy' with q | q
   ·rcases cR q with z | ⟨z,_⟩
    ·exact absurd rfl (hcell _ (lookup_mem z))
    ·exact free z
   ·rcases cR q with z | ⟨_,z⟩
    ·exact free z
    ·cases z
  ·rcases(f2 b hb).2.2.2.1 with z | z
   ·exact I3.ok.vo b o p z
   ·exact absurd (Ma (LI p) (L0 I3.ok.bsz z)) (MN _)
  ·rcases LR.mp (I3.iF b z) with q | q
   ·exact(f2 b hb).2.1 q
   ·exact(f2 b hb).2.2.1 q
 have I4:∀tk,Inv X' [] (jv tn'.length ix σ) H3 { s3 with heap:=h₁,toks:=tk }:=fun tk=>by
  have hloc:=I3.loc
  refine⟨okX,by rw[hXs],I3.bare,?_,⟨fun y=>([]:List (Str × LM)).reverse.lookup y,by rw[hXe];exact hns₁,fun i y v e1 e2 e3=>?_⟩,fun y c p=>?_,?_,fun y c p=>?_,fun p hp=>?_,?_,?_⟩
  ·rw[hXf,hXex,hXH,hXs];exact Un.kept keep4
  ·rw[hXN,hN] at e1
   by_cases hit':i<tn'.length
   ·exfalso
    unfold jv at e2
    rw[LV (by simpa using hit'),Oj,if_pos hit'] at e2
    cases e2
   ·have e10:N'[i]?=some y:=by rw[hN];exact e1
    obtain⟨j,rfl⟩:∃j,i=tn'.length+j:=⟨i - tn'.length,by lia⟩
    have e1':(ix.map fun i=>(X.N[i]?).getD ("" : Str))[j]?=some y:=by
     rw[LY (by lia)] at e1
     rw[show tn'.length+j - tn'.length=j by lia] at e1
     exact e1
    have e2':(ix.map fun i=>(σ[i]?).join)[j]?=some (some v):=by
     unfold jv at e2
     rw[LY (by simp)] at e2
     simpa using e2
    rw[Me] at e1' e2'
    cases hj:ix[j]? with
    | none=>rw[hj] at e1';cases e1'
    | some i0=>
     rw[hj] at e1' e2'
     have e1'':(X.N[i0]?).getD ("" : Str)=y:=by simpa using e1'
     have e2'':(σ[i0]?).join=some v:=by simpa using e2'
     have hsv:σ[i0]?=some (some v):=by
      cases q:σ[i0]? with
      | none=>rw[q] at e2'';cases e2''
      | some z=>rw[q] at e2'';have:z=some v:=by simpa using e2''
                rw[this]
     have hlt:i0<X.N.length:=by
      have:=(Mu.mp hsv).1
      rw[I3.len] at this;exact this
     have hNy:X.N[i0]?=some y:=by
      rw[LU hlt] at e1'' ⊢
      simpa using e1''
     have hyt:y∈N'.drop tn'.length:=by
      refine Ms (i:=j) ?_
      rw[N2];exact e10
     have hyf:=hcap y hyt
     have hyc:=outc (y,.free) (lookup_mem hyf) rfl
     obtain⟨m,hn,hl⟩:=hloc
     obtain⟨u,r,l⟩:=hl i0 y v hNy hsv (.inr (.inl hyc))
     refine⟨u,r,?_⟩
     rcases l with⟨k1,_⟩ | ⟨_,c,p,z⟩
     ·have hyc':X.env.kindOf y=some .cell:=hyc
      rw[k1] at hyc';cases hyc'
     ·obtain⟨c',p'⟩:=hcl2 y (lookup_mem hyf)
      have pc:c'=c:=by
       have:=hcl1 y c' p'
       rw[p] at this;cases this;rfl
      subst pc
      refine .inr ⟨.inl ?_,c',by rw[hXe];exact p',?_⟩
      ·rw[hXe];exact cI I3.ok.kind hyf hyc
      ·obtain⟨o,q1,q2⟩:=z
       exact⟨o,keep4 c' o q1,q2⟩
  ·rw[hXe] at p
   obtain⟨v,o,q1,q2⟩:=I3.cell y c (hcl1 y c p)
   exact⟨v,o,keep4 c o q1,q2⟩
  ·rw[hXe];exact I3.hok.fresh (LH _)
  ·rw[hXe] at p;exact I3.gf y c (hcl1 y c p)
  ·rw[hXpn] at hp;cases hp
  ·rw[hXp,hXw];exact I3.hok.kept keep4
  ·rw[hXN,hN];simp[jv]
 -- the loop
 have stat:∀{H':Hp},(∀b∈fp,H' b=none)->∀b∈fp,jf X' [] H' b:=fun hn b hb=>by
  refine⟨hn b hb,by rw[hXe];exact fpC b hb,?_,.inl (by rw[hXex];exact hb),fun y c p=>?_,fun p hp=>by rw[hXpn] at hp;cases hp⟩
  ·rw[hXf];intro z
   rcases LR.mp (I3.iF b z) with q | q
   ·exact(f2 b hb).2.1 q
   ·exact(f2 b hb).2.2.1 q
  ·rw[hXe] at p;exact(f2 b hb).2.2.2.2.1 y c (hcl1 y c p)
 have fin:∀{H5:Hp} {s5:LP} {σ5:St},Inv X' [] σ5 H5 s5->Q (.ref acc) H5->compPost (model X.prog X.w) X.A X.xe use Q2 (.ref acc) s3.heap.objs.size (.ok .next) s5:=fun{H5 s5 σ5} I5 q=>by
  obtain⟨m,hn,_⟩:=I5.loc
  rw[hXe] at hn
  have hn':s5.heap.Ns s3.heap.objs.size m:=hn
  obtain⟨oC,esC,epC,hC1,hC2,hC3⟩:=hn'
  have u5:=I5.base
  rw[hXf,hXex,hXH,hXs] at u5
  have fr:H5 s3.heap.objs.size=none:=by have:=I5.free;rw[hXe] at this;exact this
  have hok5:=I5.hok
  rw[hXp,hXw] at hok5
  have hos:s5.os=s3.os:=by have:=I5.os;rw[hXs] at this;exact this
  have IX:Inv X pins σ H5 s5:=I3.oQ (s':=s5) (ch:=fp) hos u5 hok5 I5.bare (fun b hb=>by
   obtain⟨g0,g1,g2,g3,g4,g5⟩:=f2 b hb
   exact⟨g3,g1,g4,g5⟩)
  have cC:∀x c,X.env.cells.lookup x=some c->c≠s3.heap.objs.size:=fun x c z e=>by
   obtain⟨v,q⟩:=I3.cell x c z
   exact absurd q.lt (by rw[e];exact MN _)
  have pC:∀p∈X.pn++pins,p.1≠s3.heap.objs.size:=fun p hp e=>by
   have:=LI (I3.pin p hp).1
   rw[e] at this
   exact MN _ this
  refine hfin acc s3.heap.objs.size H5 s5 oC (IX.iS fun p hp=>?_) cC I3.sz pC ⟨m,fun h' z=>⟨oC,esC,epC,z,hC2,hC3⟩⟩ q
  rcases Ml.mp hp with z | z
  ·exact IX.pin p (tv _ z)
  ·have e:=LX.mp z
   subst e
   refine⟨hC1,fr,NR I3.lt,I3.Cb (LH _),fun v e=>?_⟩
   have e':oC.data=.cell v:=e
   rw[hC2] at e';cases e'
 have IsC:∀{σ0:St} {i:Nat} {v:Option V},eE 2 ix σ σ0->i<2->eE 2 ix σ (σ0.set i v):=fun{σ0 i v} ⟨ts,hl,e⟩ hi=>⟨ts.set i v,by rw[List.length_set];exact hl,by rw[e,List.set_append_left _ _ (by rw[hl];exact hi)]⟩
 have loop:∀tk,codeAny (model X.prog X.w) X.A (.compLoop (.ListComp elt [⟨tg,iter,[],0⟩,⟨tg2,iter2,[],0⟩] scope pos) 0 (.ref it) (.ref acc) (compEnvC scope cl s3.heap.objs.size X.env))
   (compPost (model X.prog X.w) X.A X.xe use Q2 (.ref acc) s3.heap.objs.size) { s3 with heap:=h₁,toks:=tk }:=fun tk=>by
  refine pf (fun n s'=>∃i ys σ' H',Inv X' [] σ' H' s'/\eE 2 ix σ σ'/\tn i s'.heap/\(∀b∈fp,H' b=none)/\W i n ys H') (hs2 _) (fun n s5 h5=>?_) m0
   ⟨0,[],jv tn'.length ix σ,H3,I4 tk,⟨_,by rw[Pj];exact h2n,rfl⟩,T.keep _ _ _ st3' fun b _ o q=>keep4 b o q,fpn,w0⟩
  obtain⟨i,ys,σ5,H5,I5,hσ,st5,fr5,w5⟩:=h5
  rcases turn i n ys H5 w5 with⟨stop,q⟩ | ⟨go,step⟩
  ·have d:=T.done X' hXp hXw hXK hXc i [] s5 σ5 H5 (fun _ _=>False) I5 (stat fr5) st5 stop
   rw[hXA] at d
   refine thn d fun r s6 ⟨hr,I6⟩=>?_
   subst hr
   exact fin I6 q
  ·have d:=T.item X' hXp hXw hXK hXc i [] s5 σ5 H5 (fun _ _=>False) I5 (stat fr5) st5 go
   rw[hXA] at d
   refine thn d fun r s6 ⟨u,hr,h6⟩=>?_
   subst hr
   refine thn h6 fun _ s7 ⟨z,H7,I7,r7,y7,st7,fr7⟩=>?_
   have I7':=I7.pinned (stat fr7) (T.obj _ _ st7)
   have again:∀{H9:Hp} {s9:LP} {ys9:List V} {σ9:St},Inv X' ([]++fK fp s7.heap) σ9 H9 s9->eE 2 ix σ σ9->(∃m',m'<n/\W (i+1) m' ys9 H9)->∃m',m'<n/\∃i ys σ' H',Inv X' [] σ' H' s9/\eE 2 ix σ σ'/\tn i s9.heap/\(∀b∈fp,H' b=none)/\W i m' ys H':=fun{H9 s9 ys9 σ9} I9 c9 ⟨m',hm,w9⟩=>by
    refine⟨m',hm,i+1,ys9,_,H9,I9.eO,c9,T.keep _ _ _ st7 fun b hb o e=>(I9.pin (b,o) (tv _ (tv _ (bW hb e)))).1,fun b hb=>?_,w9⟩
    obtain⟨o,e,_⟩:=T.obj _ _ st7 b hb
    exact(I9.pin (b,o) (tv _ (tv _ (bW hb e)))).2.1
   have he':=he cl s3.heap.objs.size s3 H3 fp
   have hg':=hg cl s3.heap.objs.size s3 H3 fp
   have hg2':=hg2 cl s3.heap.objs.size s3 H3 fp
   have hi2':=hi2 cl s3.heap.objs.size s3 H3 fp
   rw[hX'] at he' hg' hg2' hi2'
   rw[<- hXe]
   have a0:=hg' _ s7 σ5 H7 z u (fun σ2 Hn=>σ2=σ5.set 0 (some z)/\Hn=H7) I7' r7 ⟨rfl,rfl⟩
   rw[hXp,hXw,hXA,hXx] at a0
   refine thn a0 fun _ s8 ⟨σ8,H8,I8,e8,e8'⟩=>?_
   subst e8 e8'
   have a1:=hi2' _ s8 _ H8 _ I8 (step σ5 z H8 hσ y7)
   rw[hXp,hXw,hXA,hXx] at a1
   refine thn a1 fun v2 s9 h9=>thn h9 fun itv2 s10 h10=>?_
   obtain⟨it2,fp2,tn2,J2,H10,e10,I10,T2,st10,f10,V,⟨m2,v0⟩,turn2⟩:=h10
   subst e10
   rw[hXp,hXw,hXK] at T2
   have stat2:∀{H':Hp},(∀b∈fp2,H' b=none)->∀b∈fp2,jf X' ([]++fK fp s7.heap) H' b:=fun hn b hb=>⟨hn b hb,(f10 b hb).2⟩
   have inner:codeAny (model X.prog X.w) X.A (.compLoop (.ListComp elt [⟨tg,iter,[],0⟩,⟨tg2,iter2,[],0⟩] scope pos) 1 (.ref it2) (.ref acc) X'.env) (fun r s'=>match r with
     | .ok _=>∃m',m'<n/\∃i ys σ' H',Inv X' [] σ' H' s'/\eE 2 ix σ σ'/\tn i s'.heap/\(∀b∈fp,H' b=none)/\W i m' ys H'
     | .error _=>False) s10:=by
    refine ux (fun m s'=>∃j zs uo H',Inv X' ([]++fK fp s7.heap) ((σ5.set 0 (some z)).set 1 uo) H' s'/\tn2 j s'.heap/\(∀b∈fp2,H' b=none)/\V j m zs H') (fun m s11 h11=>?_) m2 ⟨0,ys,((σ5.set 0 (some z))[1]?).join,H10,?_,st10,fun b hb=>(f10 b hb).1,v0⟩
    ·obtain⟨j,zs,uo,H11,I11,st11,fr11,v11⟩:=h11
     rcases turn2 j m zs H11 v11 with⟨stop2,q2⟩ | ⟨go2,step2⟩
     ·have d:=T2.done X' hXp hXw hXK hXc j _ s11 _ H11 (fun _ _=>False) I11 (stat2 fr11) st11 stop2
      rw[hXA] at d
      refine thn d fun r s12 ⟨hr,I12⟩=>?_
      subst hr
      exact again I12 (IsC (IsC hσ (by decide)) (by decide)) q2
     ·have d:=T2.item X' hXp hXw hXK hXc j _ s11 _ H11 (fun _ _=>False) I11 (stat2 fr11) st11 go2
      rw[hXA] at d
      refine thn d fun r s12 ⟨u2,hr,h12⟩=>?_
      subst hr
      refine thn h12 fun _ s13 ⟨z2,H13,I13,r13,y13,st13,fr13⟩=>?_
      have I13':=I13.pinned (stat2 fr13) (T2.obj _ _ st13)
      have b0:=hg2' _ s13 _ H13 z2 u2 (fun σ2 Hn=>σ2=((σ5.set 0 (some z)).set 1 uo).set 1 (some z2)/\Hn=H13) I13' r13 ⟨rfl,rfl⟩
      rw[hXp,hXw,hXA,hXx] at b0
      refine thn b0 fun _ s14 ⟨σ14,H14,I14,e14,e14'⟩=>?_
      subst e14 e14'
      rw[List.set_set] at I14
      have b1:=he' _ s14 _ H14 _ I14 (step2 z2 H14 y13)
      rw[hXp,hXw,hXA,hXx] at b1
      refine thn b1 fun yv s15 ⟨y,H15,I15,r15,ks,q1,q2,q3⟩=>?_
      have b2:=gH (X:=X') _ s15 _ H15 (.ref acc) [y] (.ref acc) [yv] (fun _ Hq=>∃m',m'<m/\V (j+1) m' (ks++[y]) Hq) I15 rfl (.cons r15 .nil) ⟨acc,ks,y,rfl,rfl,q1,q2,q3⟩
      rw[hXp,hXw,hXA,hXx] at b2
      refine thn b2 fun _ s16 ⟨_,H16,I16,_,m',hm',w16⟩=>?_
      refine⟨m',hm',j+1,ks++[y],some z2,H16,I16.eO,T2.keep _ _ _ st13 fun b hb o e=>(I16.pin (b,o) (tv _ (tv _ (bW hb e)))).1,fun b hb=>?_,w16⟩
      obtain⟨o,e,_⟩:=T2.obj _ _ st13 b hb
      exact(I16.pin (b,o) (tv _ (tv _ (bW hb e)))).2.1
    ·have:(σ5.set 0 (some z)).set 1 ((σ5.set 0 (some z))[1]?).join=σ5.set 0 (some z):=by
      obtain⟨ts,hl,e⟩:=hσ
      match ts,hl with
      | [p,q],_=>rw[e];rfl
     rw[this];exact I10
   refine sM inner ?_
   exact T2.self _ 0 _ _ _ st10 inner
 refine O5 (loop _) ?_
 exact T.self _ 0 _ _ _ (T.keep _ _ _ st3' fun b _ o q=>keep4 b o q) (loop _)
section
variable {X:Cx}{elt iter tg iter2 tg2:Expr}{scope osc:Pg}{pos:Pos}{wi wi2:TI}{te:TE}
theorem yM (ix) (tn' N') (h2n:tn'.length=2)
  (hc:X.calm=true) (ho:X.env.scope=osc) (hN:N'=tn'++ix.map fun i=>(X.N[i]?).getD ("" : Str)) (hnd:N'.Nodup)
  (hall:(∀y∈scope.names,y.2=.free->osc.names.lookup y.1=some .cell)/\(∀y∈scope.names,y.2≠.cell)/\scope.kind=.function/\(∀y∈scope.names,y.2=.local->scope.names.lookup y.1=some .local)/\(∀y∈N'.drop tn'.length,scope.names.lookup y=some .free))
  (hi:PI X tg iter wi) (hg:∀cl C au av fp,PG (aL X.nox scope cl C au av fp N') tg (dD 0)) (hi2:∀cl C au av fp,PI (aL X.nox scope cl C au av fp N') tg2 iter2 wi2) (hg2:∀cl C au av fp,PG (aL X.nox scope cl C au av fp N') tg2 (dD 1))
  (he:∀cl C au av fp,PE (aL X.nox scope cl C au av fp N') elt te)
  (hs:∀x,foldedSetIterable iter X.env x=pure x:=by intro _;rfl) (hs2:∀env x,foldedSetIterable iter2 env x=pure x:=by intro _ _;rfl) :
  PE X (.ListComp elt [⟨tg,iter,[],0⟩,⟨tg2,iter2,[],0⟩] scope pos) (kM wi ix wi2 te):=by
 intro pins s σ H Q I h
 have e:eval (.ListComp elt [⟨tg,iter,[],0⟩,⟨tg2,iter2,[],0⟩] scope pos) X.env=comprehension (.ListComp elt [⟨tg,iter,[],0⟩,⟨tg2,iter2,[],0⟩] scope pos) scope X.env (firstIterPos [⟨tg,iter,[],0⟩,⟨tg2,iter2,[],0⟩] pos) (newList []) false (eval iter X.env) none:=by
  rfl
 refine u_ ix N' hc ho hN hnd hall hi hg hi2 hg2 he hs hs2 h2n I h fun acc C H5 s5 o I5 cC hC pC hm q=>?_
 obtain⟨m,hm⟩:=hm
 exact⟨m,hm _ (I5.pin (C,o) (tv _ (tv _ (LX.mpr rfl)))).1,fun h' hs'=>⟨.ref acc,H5,I5.CW cC hC pC hs',rfl,q⟩⟩
end
end L2
namespace L2.FE
open PySem PySem.Spec PyProof.Rows
noncomputable def jV (mi:MI) (ix:List Nat) (mi2:MI) (te:ME):ME:=fun env h=>(mi env h).bind fun sr h1=>noR (jt (fun _ h=>.ok sr h) ix mi2 te env h1)
section
variable {K:gV}{g:GG}
theorem vU {ε:EE}{mi mi2:MI}{te:ME}{ix:List Nat}{σ:St}{H:Hp}{Q:VK} (t:tM K g ε (jV mi ix mi2 te) σ H Q):kM (tMI K g ε mi) ix (tMI K g E00 mi2) (tM K g E00 te) σ H Q:=by
 obtain⟨α,env,h,s,w⟩:=t
 refine⟨α,env,h,s,w.bind.mono fun sr h1 _ w1 J H1 α1 e1 hr1 rd=>fun acc hacc=>?_⟩
 have w1:WQ K g E00 α H ((jy h1.length sr.rdr mi2 te (dB ix env) (sr.fuel h1) 0 (h1++[.lst []])).bind fun _ h2=>.ok (.ref h1.length) h2) (aR K g α H Q):=FH w1
 have s1:=s.ext e1 hr1
 have xp:Ext K α1 H1 (α1++[acc]) (upd H1 acc (.lst [])):=Ext.push hacc
 have hrp:aU K g (α1++[acc]) (upd H1 acc (.lst [])) (h1++[.lst []]):=hr1.push hacc ⟨[],a8,.nil⟩
 have p0:(α1++[acc])[h1.length]?=some acc:=by rw[<- hr1.len];simp
 refine⟨fun i m ys H=>∃α h,Ext K α1 H1 α H/\α[h1.length]?=some acc/\aU K g α H h ∧
  WQ K g E00 α1 H1 ((jy h1.length sr.rdr mi2 te (dB ix env) m i h).bind fun _ h2=>.ok (.ref h1.length) h2) (aR K g α1 H1 Q),
  ⟨sr.fuel h1,_,_,xp,p0,hrp,w1.post e1⟩,?_⟩
 rintro i m ys H2 ⟨α2,h2,x2,p2,hr2,w2⟩
 have q:=rd α2 H2 h2 x2 hr2 i
 unfold jy at w2
 cases e:sr.rdr h2 i with
 | none=>rw[e] at w2;exact w2.elim
 | some od=>
  rw[e] at w2 q
  cases od with
  | none=>exact .inl ⟨q,(show aR K g α1 H1 Q (.ref h1.length) h2 from w2) _ _ _ x2 hr2 (.ref p2)⟩
  | some d=>
   cases m with
   | zero=>exact w2.elim
   | succ m=>
    rw[bG] at w2
    have w3:=WQ.bind (show WQ K g E00 α1 H1 ((mi2 (dB ix env (some d) none) h2).bind _) _ from w2)
    refine .inr ⟨q.1,fun σ0 x H3 hcap y=>?_⟩
    obtain⟨ts,hl,hσ0⟩:=hcap
    match ts,hl with
    | [v0,q0],_=>
    subst hσ0
    obtain⟨α3,x3,hr3,rx⟩:=q.2 x H3 y
    have s3:c_ K g α3 H3 (dB ix env (some d) none) (some x::q0::ix.map fun i=>(σ[i]?).join) h2:=⟨hr3,jI (s1.vs.ext (x2.trans x3)) (fun d' hd=>by simp_all) (fun d' hd=>by cases hd)⟩
    refine⟨α3,_,h2,s3,((w3.ext x2).ext x3).mono fun sr2 h4 _ w4 J2 H4 α4 x4 hr4 rd2=>?_⟩
    have x14:=x2.trans (x3.trans x4)
    have p4:=iT (x3.trans x4) p2
    refine⟨fun j m2 zs H=>∃α h,Ext K α4 H4 α H/\aU K g α H h ∧
     WQ K g E00 α1 H1 (((nI h1.length sr2.rdr te (fun e=>dB ix env (some d) (some e)) m2 j h).bind fun _ h2=>jy h1.length sr.rdr mi2 te (dB ix env) m (i+1) h2).bind fun _ h2=>.ok (.ref h1.length) h2) (aR K g α1 H1 Q),
     ⟨sr2.fuel h4,α4,h4,Ext.refl,hr4,w4⟩,?_⟩
    rintro j m2 zs H5 ⟨α5,h5,x5,hr5,w5⟩
    have q2:=rd2 α5 H5 h5 x5 hr5 j
    have p5:=iT x5 p4
    unfold nI at w5
    cases e2:sr2.rdr h5 j with
    | none=>rw[e2] at w5;exact w5.elim
    | some od2=>
     rw[e2] at w5 q2
     cases od2 with
     | none=>exact .inl ⟨q2,m,M7 _,α5,h5,x14.trans x5,p5,hr5,w5⟩
     | some d2=>
      cases m2 with
      | zero=>exact w5.elim
      | succ m2=>
       have w6:WQ K g E00 α1 H1 ((te (dB ix env (some d) (some d2)) h5).bind fun y h2=>(((u7 h1.length y h2).bind fun _ h3=>nI h1.length sr2.rdr te (fun e=>dB ix env (some d) (some e)) m2 (j+1) h3).bind fun _ h2=>jy h1.length sr.rdr mi2 te (dB ix env) m (i+1) h2).bind fun _ h2=>.ok (.ref h1.length) h2) (aR K g α1 H1 Q):=by
        have:=w5
        simp only[bG] at this ⊢
        lia
       refine .inr ⟨q2.1,fun yv H6 yy=>?_⟩
       obtain⟨α6,x6,hr6,ry⟩:=q2.2 yv H6 yy
       have s6:c_ K g α6 H6 (dB ix env (some d) (some d2)) (some x::some yv::ix.map fun i=>(σ[i]?).join) h5:=⟨hr6,jI (s1.vs.ext (x14.trans (x5.trans x6))) (fun d' hd=>by cases hd;exact⟨x,rfl,rx.ext (x4.trans (x5.trans x6))⟩) (fun d' hd=>by simp_all)⟩
       refine tM.use s6 ((WQ.bind w6).ext (x14.trans (x5.trans x6))) fun y h7 v7 H7 α7 x7 s7 r7 w7=>?_
       have p7:=iT (x6.trans x7) p5
       unfold u7 at w7
       cases el:aH h7 h1.length with
       | none=>rw[el] at w7;exact w7.elim
       | some ds=>
        rw[el] at w7
        dsimp only at w7
        by_cases hlen:ds.length<1000000
        ·rw[if_pos hlen] at w7
         obtain⟨vs,hv,rs⟩:=s7.heap.lst el p7
         have x:=Ext.write (K:=K) (o:=.lst (vs++[v7])) s7.heap p7
         exact⟨vs,hv,by rw[<- rs.length,MV];lia,m2,M7 _,α7,_,(x5.trans (x6.trans x7)).trans x,s7.heap.write (u':=.lst (ds++[y])) p7 ⟨_,a8,(rs.append (.cons r7 .nil)).ext x⟩,w7⟩
        ·rw[if_neg hlen] at w7;exact w7.elim
end
section
variable {X:Cx}{g:GG}
theorem yf {ε:EE}{elt iter iter2:Expr}{x y:Str}{px py:Pos}{scope osc:Pg}{pos:Pos}{mi mi2:MI}{te:ME} (ix:List Nat) (N':List Str)
  (hc:X.calm=true) (ho:X.env.scope=osc) (hN:N'=[x,y]++ix.map fun i=>(X.N[i]?).getD ("" : Str)) (hnd:N'.Nodup)
  (hall:(∀y∈scope.names,y.2=.free->osc.names.lookup y.1=some .cell)/\(∀y∈scope.names,y.2≠.cell)/\scope.kind=.function/\(∀y∈scope.names,y.2=.local->scope.names.lookup y.1=some .local)/\(∀z∈N'.drop [x,y].length,scope.names.lookup z=some .free))
  (hi:PI X (.Name x px) iter (tMI X.K g ε mi))
  (hx:∀cl C au av fp,Loc (aL X.nox scope cl C au av fp N').env.scope x/\(aL X.nox scope cl C au av fp N').env.scope.names.lookup x=some .local) (hy:∀cl C au av fp,Loc (aL X.nox scope cl C au av fp N').env.scope y/\(aL X.nox scope cl C au av fp N').env.scope.names.lookup y=some .local)
  (hi2:∀cl C au av fp,PI (aL X.nox scope cl C au av fp N') (.Name y py) iter2 (tMI X.K g E00 mi2))
  (he:∀cl C au av fp,PE (aL X.nox scope cl C au av fp N') elt (tM X.K g E00 te))
  (hs:∀x,foldedSetIterable iter X.env x=pure x:=by intro _;rfl) (hs2:∀env x,foldedSetIterable iter2 env x=pure x:=by intro _ _;rfl) :
  PE X (.ListComp elt [⟨.Name x px,iter,[],0⟩,⟨.Name y py,iter2,[],0⟩] scope pos) (tM X.K g ε (jV mi ix mi2 te)):=
 PE.imp (yM ix [x,y] N' rfl hc ho hN hnd hall hi (fun cl C au av fp=>dU hnd (show N'[0]?=some x by rw[hN];rfl) (hx cl C au av fp).1 (.inr (hx cl C au av fp).2)) hi2 (fun cl C au av fp=>dU hnd (show N'[1]?=some y by rw[hN];rfl) (hy cl C au av fp).1 (.inr (hy cl C au av fp).2)) he hs hs2) fun σ H Q t=>vU t
end
variable {X:Cx}{g:GG}
theorem wt {K:gV}{ε:EE}{mi:MI}{ix:List Nat}{tt:TT}{te:TE}{σ:St}{H:Hp}{Q:VK} (t:D_ (tMI K g ε mi) ix tt te σ H Q):mG (tMI K g ε mi) 1 ix (dD 0) tt te σ H Q:=by
 obtain⟨α,env,h,s,w⟩:=t
 refine⟨α,env,h,s,w.mono fun sr h1 _ z J H' α' e hr rd acc ha=>?_⟩
 obtain⟨W,w0,st⟩:=z J H' α' e hr rd acc ha
 refine⟨W,w0,fun i m ys H1 hw=>(st i m ys H1 hw).imp id fun⟨a,b⟩=>⟨a,fun σ0 x H2 hc hy=>?_⟩⟩
 obtain⟨ts,tl,rfl⟩:=hc
 match ts,tl with
 | [t0],_=>exact⟨⟨[some x],rfl,rfl⟩,b x H2 hy⟩
theorem cy [iq nl]{elt iter:Expr}{x:Str}{px:Pos}{ifs:List Expr}{scope osc:Pg}{pos:Pos}{mi:MI}{tt:MT}{te:ME} (ix) (N')
  (hxe:X.xe=fun _ _=>False) (hc:X.calm=true) (ho:X.env.scope=osc) (hN:N'=x::ix.map fun i=>(X.N[i]?).getD ("" : Str)) (hnd:N'.Nodup)
  (hall:(∀y∈scope.names,y.2=.free->osc.names.lookup y.1=some .cell)/\(∀y∈scope.names,y.2≠.cell)/\scope.kind=.function/\(∀y∈scope.names,y.2=.local->scope.names.lookup y.1=some .local)/\scope.names.lookup x=some .local/\(∀y∈N'.tail,scope.names.lookup y=some .free))
  (hi:PI X (.Name x px) iter (tMI X.K g E00 mi))
  (ht:∀cl C au av fp,PTs (aL X scope cl C au av fp N') ifs (tMT X.K g E00 tt))
  (he:∀cl C au av fp,PE (aL X scope cl C au av fp N') elt (tM X.K g E00 te))
  (hs:∀x,foldedSetIterable iter X.env x=pure x:=by intro _;rfl) :
  PE X (.ListComp elt [⟨.Name x px,iter,ifs,0⟩] scope pos) (tM X.K g E00 (bu nl mi ix tt te)):=by
 refine PE.imp (PE.frz (ui ix [x] N' hxe hc ho hN hnd ⟨hall.1,hall.2.1,hall.2.2.1,hall.2.2.2.1,fun y hy=>hall.2.2.2.2.2 y (by simp_all)⟩ hi (fun cl C au av fp=>dU hnd (show N'[0]?=some x by grind) (.inl (OI hall.2.2.2.2.1)) (.inr (OI hall.2.2.2.2.1))) ht he hs)) fun σ H Q t=>?_
 exact wt (uA (fun _ _ z=>z) t)
theorem i_ {nl:NL} [iq nl]{elt iter:Expr}{x z:Str}{px pz:Pos}{ifs:List Expr}{scope osc:Pg}{pos spos:Pos}{mi:MI}{tt:MT}{te:ME}{i:Nat} (ix:List Nat) (N':List Str)
  (hxe:X.xe=fun _ _=>False) (hc:X.calm=true) (ho:X.env.scope=osc) (hN:N'=x::ix.map fun i=>(X.N[i]?).getD ("" : Str)) (hnd:N'.Nodup)
  (hall:(∀y∈scope.names,y.2=.free->osc.names.lookup y.1=some .cell)/\(∀y∈scope.names,y.2≠.cell)/\scope.kind=.function/\(∀y∈scope.names,y.2=.local->scope.names.lookup y.1=some .local)/\scope.names.lookup x=some .local/\(∀y∈N'.tail,scope.names.lookup y=some .free))
  (hi:PI X (.Name x px) iter (tMI X.K g E00 mi))
  (ht:∀cl C au av fp,PTs (aL X scope cl C au av fp N') ifs (tMT X.K g E00 tt))
  (he:∀cl C au av fp,PE (aL X scope cl C au av fp N') elt (tM X.K g E00 te))
  (hNN:X.N.Nodup) (hz:X.N[i]?=some z) (hl:X.env.scope.names.lookup z=some .local:=by rfl)
  (hsw:swapsWith (.ListComp elt [⟨.Name x px,iter,ifs,0⟩] scope pos) (some (.Name z pz)) spos.line X.env=pure true:=by rfl)
  (hs:∀x,foldedSetIterable iter X.env x=pure x:=by intro _;rfl) :
  PS X (.Assign [.Name z pz] (.ListComp elt [⟨.Name x px,iter,ifs,0⟩] scope pos) spos) (tMS X.K g E00 (aV i (bu nl mi ix tt te))):=by
 refine PS.imp (PS.frz (ug ix [x] N' hxe hc ho hN hnd ⟨hall.1,hall.2.1,hall.2.2.1,hall.2.2.2.1,fun y hy=>hall.2.2.2.2.2 y (by simp_all)⟩ hi (fun cl C au av fp=>dU hnd (show N'[0]?=some x by grind) (.inl (OI hall.2.2.2.2.1)) (.inr (OI hall.2.2.2.2.1))) ht he hNN hz hl hsw hs)) fun E σ H ⟨α,env,h,s,w⟩=>wt (uA (fun v H1 z=>B9 z) (tM.use s w.bind fun d1 h1 v1 H1 α1 e1 s1 r1 w1=>(show cP X.K g α H E (.nx (env.set i (some d1))) h1 from w1) H1 α1 e1 s1.heap _ (s1.vs.set r1)))
end L2.FE
namespace L2.SM
open PySem PySem.W PyProof.Rows
noncomputable def pP:Bool->Keyed->Array Keyed->Nat->Nat->Nat->StateT SortSt Sem (Option Nat):=sortPriv% PySem.Builtin.gallop
noncomputable def Ao:Array Keyed->Array Keyed->StateT SortSt Sem (Array Keyed):=sortPriv% PySem.Builtin.mergeLo
noncomputable def Bf:Array Keyed->Array Keyed->StateT SortSt Sem (Array Keyed):=sortPriv% PySem.Builtin.mergeHi
section
variable {prog:Mc}{w:MU}{A:MY}{E:LM->LP->Prop}{s:LP}
noncomputable def Gv (prog:Mc) (w:MU) (A:MY) (E:LM->LP->Prop) (s:LP){α:Type} (m:StateT L7 Sem α) (st:L7) (Q:α->L7->Prop):Prop:=
 kasC (model prog w) A E m (fun a st' s'=>s'=s/\Q a st') st s
theorem Gv.pure {Q:α->L7->Prop}{st:L7} (h:Q a st):Gv prog w A E s (Pure.pure a:StateT L7 Sem α) st Q:=kasC_pure ⟨rfl,h⟩
theorem Gv.bind {f:α->StateT L7 Sem β}{st:L7} (h:Gv prog w A E s m st fun a st'=>Gv prog w A E s (f a) st' Q):Gv prog w A E s (m >>= f) st Q:=by
 refine kasC_bind (Nw h (fun r s' h'=>?_) fun _ _ e=>e)
 obtain⟨e,h'⟩:=h'
 subst e
 exact h'
theorem Gv.mono {st:L7} (h:Gv prog w A E s m st Q) (q:∀a st',Q a st'->Q' a st'):Gv prog w A E s m st Q':=Nw h (fun r s' h'=>⟨h'.1,q _ _ h'.2⟩) fun _ _ e=>e
theorem Gv.get {st:L7} (h:Q st st):Gv prog w A E s (MonadState.get:StateT L7 Sem L7) st Q:=kasC_get ⟨rfl,h⟩
theorem Gv.set {st st':L7} (h:Q ⟨⟩ st'):Gv prog w A E s (MonadState.set st':StateT L7 Sem PUnit) st Q:=by
 exact LJ ⟨rfl,h⟩
theorem Gv.modify {st:L7} (h:Q ⟨⟩ (f st)):Gv prog w A E s (_root_.modify f:StateT L7 Sem PUnit) st Q:=kasC_modify ⟨rfl,h⟩
theorem Gv.lift {Q:α->L7->Prop}{st:L7} (h:wpAny (model prog w) A m (fun a s'=>s'=s/\Q a st) E s):Gv prog w A E s (liftM m:StateT L7 Sem α) st Q:=kasC_lift h
theorem Gv.rule {id:String}{st:L7} (h:Q () st):Gv prog w A E s (liftM (PySem.rule id):StateT L7 Sem Unit) st Q:=Gv.lift (Py ⟨rfl,h⟩)
theorem wB {β:Type}{f:Nat->β->StateT L7 Sem (ForInStep β)} (I:Nat->β->L7->Prop) (D:β->L7->Prop)
  (step:∀x n b st,I (n+1) b st->Gv prog w A E s (f x b) st fun r st'=>match r with | .done b'=>D b' st' | .yield b'=>I n b' st')
  (fin:∀b st,I 0 b st->D b st):∀(l:List Nat) (b:β) (st:L7),I l.length b st->Gv prog w A E s (forIn l b f) st D
 | [],b,st,h=>kasC_nil ⟨rfl,fin b st h⟩
 | x::l,b,st,h=>by
  have ih:=wB I D step fin l
  refine kasC_cons (Nw (step x l.length b st h) (fun r s' h'=>?_) fun _ _ e=>e)
  obtain⟨e,h'⟩:=h'
  subst e
  revert h'
  cases r.1 with
  | done b'=>simp
  | yield b'=>intro h';exact ih b' r.2 h'
theorem Gv.range {st:L7} (I:Nat->β->L7->Prop) (h0:I (b - a) c st)
  (step:∀x n b st,I (n+1) b st->Gv prog w A E s (f x b) st fun r st'=>match r with | .done b'=>Q b' st' | .yield b'=>I n b' st')
  (fin:∀b st,I 0 b st->Q b st):Gv prog w A E s (forIn [a:b] c f) st Q:=
 kasC_range (wB I Q step fin _ _ _ (by simp_all))
theorem Gv.elem {st:L7} (e:arr[i]?=some x) (h:Q x st):Gv prog w A E s (elem' arr i) st Q:=by
 rw[elem'_eq,e];exact Gv.pure h
theorem Gv.lt {st:L7} (hc:∀C:Bool->LP->Prop,C c s->wpAny (model prog w) A (keyLt' (kindOf st) x.1 y.1) C (fun _ _=>False) s) (h:Q (some c) st):Gv prog w A E s (lt' x y) st Q:=by
 refine Gv.bind (Gv.get ?_)
 refine Gv.bind (Gv.lift (QC (Nw (hc (fun c' s'=>c'=c/\s'=s) ⟨rfl,rfl⟩) (fun c' s' hc'=>?_) fun _ _ hF=>hF.elim)))
 obtain⟨rfl,rfl⟩:=hc'
 exact⟨rfl,Gv.pure h⟩
end
section
variable {prog:Mc}{w:MU}{A:MY}{E:LM->LP->Prop}{s:LP}{κ:Ox}{P:Mx->Prop}{kk:Mx->Int}
noncomputable def Cmp (prog:Mc) (w:MU) (A:MY) (s:LP) (κ:Ox) (P:Mx->Prop) (kk:Mx->Int):Prop:=∀x y,P x->P y->∀C:Bool->LP->Prop,C (decide (kk x<kk y)) s->wpAny (model prog w) A (keyLt' κ x.1 y.1) C (fun _ _=>False) s
theorem Gv.ltC {st:L7} (c:Cmp prog w A s κ P kk) (hx:P x) (hy:P y) (hk:kindOf st=κ) (h:Q (some (decide (kk x<kk y))) st):Gv prog w A E s (lt' x y) st Q:=by
 subst hk
 exact Gv.lt (c x y hx hy) h
noncomputable def kAt (kk:Mx->Int) (a:Array Mx) (i:Nat):Int:=((a[i]?).map kk).getD 0
theorem AQ {a:Array Mx}{i:Nat}{x:Mx} (e:a[i]?=some x):kAt kk a i=kk x:=by unfold kAt;rw[e];rfl
noncomputable def bey (kk:Mx->Int) (left:Bool) (key:Mx) (arr:Array Mx) (base i:Nat):Bool:=if left then decide (kAt kk arr (base+i)<kk key) else !decide (kk key<kAt kk arr (base+i))
theorem E5 {st:L7} (c:Cmp prog w A s κ P kk) (ha:∀x∈arr,P x) (hy:P key) (hk:kindOf st=κ) (hi:base+i<arr.size)
  (h:Q (some (bey kk left key arr base i)) st):Gv prog w A E s (do
   let x ← elem' arr (base+i)
   if left=true then lt' x key else do
    let r ← lt' key x
    pure (r.map (!·))) st Q:=by
 have e:arr[base+i]?=some arr[base+i]:=by simp[hi]
 have hp:=ha _ (Mp hi)
 have hv:=AQ (kk:=kk) e
 unfold bey at h
 rw[hv] at h
 refine Gv.bind (Gv.elem e ?_)
 cases left with
 | true=>exact Gv.ltC c hp hy hk h
 | false=>exact Gv.bind (Gv.ltC c hy hp hk (Gv.pure h))
theorem oS {st:L7} (c:Cmp prog w A s κ P kk) (ha:∀x∈arr,P x) (hy:P key) (hk:kindOf st=κ) (hn:base+n<=arr.size) (hh:hint<n)
  (mo:∀i j,i<=j->j<n->bey kk left key arr base j=true->bey kk left key arr base i=true)
  (h:∀k,k<=n->(∀i,i<k->bey kk left key arr base i=true)->(∀i,k<=i->i<n->bey kk left key arr base i=false)->Q (some k) st):Gv prog w A E s (pP left key arr base n hint) st Q:=by
 have B:∀{i:Nat} {Q:Option Bool->L7->Prop},i<n->Q (some (bey kk left key arr base i)) st->Gv prog w A E s (do
   let x ← elem' arr (base+i)
   if left=true then lt' x key else do
    let r ← lt' key x
    pure (r.map (!·))) st Q:=fun{i Q} hi h=>E5 c ha hy hk (by lia) h
 have mo':∀i j,i<=j->j<n->bey kk left key arr base i=false->bey kk left key arr base j=false:=fun i j hij hj e=>by
  grind
 generalize bey kk left key arr base=b at *
 -- the last loop
 have L3:∀lo hi,lo<=hi->hi<=n->(∀i,i<lo->b i=true)->(∀i,hi<=i->i<n->b i=false)->∀{f:Nat->Option (Option Nat) × Nat × Nat->StateT L7 Sem (ForInStep (Option (Option Nat) × Nat × Nat))} {R:Option (Option Nat) × Nat × Nat->L7->Prop},
   (∀x lo hi R,lo ≥ hi->R (.done (none,lo,hi)) st->Gv prog w A E s (f x (none,lo,hi)) st R) →
   (∀x lo hi R,lo<hi->hi<=n->R (if b (lo+(hi - lo) / 2)=true then .yield (none,lo+(hi - lo) / 2+1,hi) else .yield (none,lo,lo+(hi - lo) / 2)) st->Gv prog w A E s (f x (none,lo,hi)) st R) →
   (∀k lo,k<=n->(∀i,i<k->b i=true)->(∀i,k<=i->i<n->b i=false)->R (none,lo,k) st) →
   Gv prog w A E s (forIn [:n] (none,lo,hi) f) st R:=by
  intro lo hi h1 h2 h3 h4 f R f1 f2 hR
  refine Gv.range (fun m z st'=>st'=st/\∃lo hi,z=(none,lo,hi)/\lo<=hi/\hi<=n/\hi - lo<=m/\(∀i,i<lo->b i=true)/\(∀i,hi<=i->i<n->b i=false)) ⟨rfl,lo,hi,rfl,h1,h2,by lia,h3,h4⟩ (fun x m z st' hz=>?_) (fun z st' hz=>?_)
  ·obtain⟨rfl,lo,hi,rfl,g1,g2,g3,g4,g5⟩:=hz
   by_cases hl:lo ≥ hi
   ·refine f1 x lo hi _ hl ?_
    have:lo=hi:=by lia
    simp_all
   ·refine f2 x lo hi _ (by lia) g2 ?_
    cases e:b (lo+(hi - lo) / 2) with
    | true=>
     rw[if_pos rfl]
     refine⟨rfl,_,_,rfl,by lia,g2,by lia,fun i hi'=>?_,g5⟩
     grind
    | false=>
     rw[if_neg (by decide)]
     refine⟨rfl,_,_,rfl,by lia,by lia,by lia,g4,fun i hi' hn'=>?_⟩
     grind
  ·obtain⟨rfl,lo,hi,rfl,g1,g2,g3,g4,g5⟩:=hz
   have:lo=hi:=by lia
   simp_all
 with_unfolding_all refine Gv.bind ?_
 refine B hh ?_
 dsimp only
 cases e0:b hint with
 | true=>
  rw[if_pos rfl]
  refine Gv.bind (Gv.mono (Q:=fun z st'=>st'=st/\∃la ofs,z=(none,la,ofs)/\la<ofs/\hint+la<n/\b (hint+la)=true/\(n - hint<=ofs\/(ofs<n - hint/\b (hint+ofs)=false))) (Gv.range (fun m z st'=>st'=st/\∃la ofs,z=(none,la,ofs)/\la<ofs/\n+1<=ofs+m/\hint+la<n/\b (hint+la)=true) ⟨rfl,0,1,rfl,by lia,by lia,by lia,e0⟩ (fun x m z st' hz=>?_) (fun z st' hz=>?_)) (fun z st' hz=>?_))
  ·obtain⟨rfl,la,ofs,rfl,g1,g2,g3,g4⟩:=hz
   dsimp only
   by_cases hl:ofs ≥ n - hint
   ·rw[if_pos hl]
    exact Gv.pure ⟨rfl,la,ofs,rfl,g1,g3,g4,.inl hl⟩
   ·rw[if_neg hl]
    refine Gv.bind (B (by lia) ?_)
    dsimp only
    cases e:b (hint+ofs) with
    | true=>exact Gv.pure ⟨rfl,ofs,2*ofs+1,rfl,by lia,by lia,by lia,e⟩
    | false=>exact Gv.pure ⟨rfl,la,ofs,rfl,g1,g3,g4,.inr ⟨by lia,e⟩⟩
  ·obtain⟨rfl,la,ofs,rfl,g1,g2,g3,g4⟩:=hz
   grind
  ·obtain⟨rfl,la,ofs,rfl,g1,g3,g4,g5⟩:=hz
   dsimp only
   refine Gv.bind (L3 (hint+la+1) (hint+min ofs (n - hint)) ?_ ?_ ?_ ?_ (fun x lo hi R hl hR=>?_) (fun x lo hi R hl hn' hR=>?_) fun k lo g1 g2 g3=>Gv.pure (h k g1 g2 g3))
   ·lia
   ·lia
   ·grind
   ·grind
   ·dsimp only;rw[if_pos hl];exact Gv.pure hR
   ·dsimp only;rw[if_neg (by lia)]
    refine Gv.bind (B (by lia) ?_)
    dsimp only
    cases e:b (lo+(hi - lo) / 2) with
    | true=>rw[e,if_pos rfl] at hR;exact Gv.pure hR
    | false=>rw[e,if_neg (by decide)] at hR;exact Gv.pure hR
 | false=>
  rw[if_neg (by decide)]
  refine Gv.bind (Gv.mono (Q:=fun z st'=>st'=st/\∃la ofs,z=(none,la,ofs)/\la<ofs/\la<=hint/\b (hint - la)=false/\(hint+1<=ofs\/(ofs<hint+1/\b (hint - ofs)=true))) (Gv.range (fun m z st'=>st'=st/\∃la ofs,z=(none,la,ofs)/\la<ofs/\n+1<=ofs+m/\la<=hint/\b (hint - la)=false) ⟨rfl,0,1,rfl,by lia,by lia,by lia,e0⟩ (fun x m z st' hz=>?_) (fun z st' hz=>?_)) (fun z st' hz=>?_))
  ·obtain⟨rfl,la,ofs,rfl,g1,g2,g3,g4⟩:=hz
   dsimp only
   by_cases hl:ofs ≥ hint+1
   ·rw[if_pos hl]
    exact Gv.pure ⟨rfl,la,ofs,rfl,g1,g3,g4,.inl hl⟩
   ·rw[if_neg hl]
    refine Gv.bind (B (by lia) ?_)
    dsimp only
    cases e:b (hint - ofs) with
    | true=>exact Gv.pure ⟨rfl,la,ofs,rfl,g1,g3,g4,.inr ⟨by lia,e⟩⟩
    | false=>exact Gv.pure ⟨rfl,ofs,2*ofs+1,rfl,by lia,by lia,by lia,e⟩
  ·obtain⟨rfl,la,ofs,rfl,g1,g2,g3,g4⟩:=hz
   grind
  ·obtain⟨rfl,la,ofs,rfl,g1,g3,g4,g5⟩:=hz
   dsimp only
   refine Gv.bind (L3 (hint+1 - min ofs (hint+1)) (hint - la) ?_ ?_ ?_ ?_ (fun x lo hi R hl hR=>?_) (fun x lo hi R hl hn' hR=>?_) fun k lo g1 g2 g3=>Gv.pure (h k g1 g2 g3))
   ·lia
   ·lia
   ·grind
   ·grind
   ·dsimp only;rw[if_pos hl];exact Gv.pure hR
   ·dsimp only;rw[if_neg (by lia)]
    refine Gv.bind (B (by lia) ?_)
    dsimp only
    cases e:b (lo+(hi - lo) / 2) with
    | true=>rw[e,if_pos rfl] at hR;exact Gv.pure hR
    | false=>rw[e,if_neg (by decide)] at hR;exact Gv.pure hR
end
section
variable {kk:Mx->Int}{a b out:Array Mx}{ia ib:Nat}
noncomputable def Srt (kk:Mx->Int) (l:List Mx):Prop:=l.Pairwise fun x y=>kk x<kk y
structure Mg (kk) (a b out:Array Mx) (ia ib):Prop where
 perm:out.toList.Perm (a.toList.take ia++b.toList.take ib)
 srt:Srt kk out.toList
 la:∀x∈out.toList,∀y∈a.toList.drop ia,kk x<kk y
 lb:∀x∈out.toList,∀y∈b.toList.drop ib,kk x<kk y
theorem Mg.symm (m:Mg kk a b out ia ib):Mg kk b a out ib ia:=⟨m.perm.trans List.perm_append_comm,m.srt,m.lb,m.la⟩
theorem Mg.zero:Mg kk a b #[] 0 0:=⟨by simp,O_,fun x hx=>by grind,fun x hx=>by grind⟩
theorem zY {l:List Mx}{h:j<l.length} (hij:i<=j):l[j]∈l.drop i:=by
 have e:l[j]=(l.drop i)[j - i]'(by grind):=by simp_all
 grind
theorem tY (s:Srt kk l) (h):∀y∈l.drop (j+1),kk l[j]<kk y:=by
 have e:=MM h
 have s2:Srt kk (l.drop j):=QF.sublist (List.drop_sublist _ _) s
 rw[e] at s2
 exact fun y hy=>(L6.mp s2).1 y hy
theorem Mg.iY (m:Mg kk a b out ia ib) (sb:Srt kk b.toList) (hi) (hd:∀y∈a.toList.drop ia,kk b[ib]<kk y):Mg kk a b (out.push b[ib]) ia (ib+1):=by
 have hl:ib<b.toList.length:=by omega
 have eb:b.toList[ib]=b[ib]:=by simp
 have bm:b[ib]∈b.toList.drop ib:=by rw[<- eb];exact zY (LH _)
 have es:(out.push b[ib]).toList=out.toList++[b[ib]]:=by simp
 refine⟨?_,?_,?_,?_⟩
 ·rw[es,List.take_succ_eq_append_getElem hl,<- Mr]
  exact m.perm.append_right _
 ·rw[es]
  exact L8.mpr ⟨m.srt,M_ _ _,fun x hx y hy=>by rw[LX] at hy;subst hy;exact m.lb x hx _ bm⟩
 ·intro x hx y hy
  rw[es] at hx
  rcases Ml.mp hx with hx | hx
  ·exact m.la x hx y hy
  simp_all
 ·intro x hx y hy
  rw[es] at hx
  rcases Ml.mp hx with hx | hx
  ·exact m.lb x hx y (by rw[<- ON] at hy;grind)
  ·rw[LX] at hx;subst hx
   have:=tY sb hl y hy
   simp_all
theorem Mg.k9 (m:Mg kk a b out ia ib) (sa:Srt kk a.toList) (hi) (hd:∀y∈b.toList.drop ib,kk a[ia]<kk y):Mg kk a b (out.push a[ia]) (ia+1) ib:=(m.symm.iY sa hi hd).symm
theorem Mg.fX (m:Mg kk a b out ia ib) (sb:Srt kk b.toList):∀(k:Nat),ib+k<=b.size->(∀j,(hj:j<b.size)->ib<=j->j<ib+k->∀y∈a.toList.drop ia,kk b[j]<kk y)->Mg kk a b (out++b.extract ib (ib+k)) ia (ib+k)
 | 0,_,_=>by
  have e:b.extract ib (ib+0) = #[]:=by simp;lia
  rw[e];simpa using m
 | k+1,hk,hd=>by
  have ih:=Mg.fX m sb k (by lia) (fun j hj h1 h2=>hd j hj h1 (by lia))
  have e:out++b.extract ib (ib+(k+1))=(out++b.extract ib (ib+k)).push b[ib+k]:=by
   rw[<- Array.append_push]
   congr 1
   rw[Array.push_extract_getElem (by lia) ]
   congr 1
   lia
  rw[e]
  exact ih.iY sb (by lia) (hd (ib+k) (by lia) (by lia) (by lia))
theorem Mg.kI (m:Mg kk a b out ia ib) (sa:Srt kk a.toList) (k) (hk:ia+k<=a.size) (hd:∀j,(hj:j<a.size)->ia<=j->j<ia+k->∀y∈b.toList.drop ib,kk a[j]<kk y):Mg kk a b (out++a.extract ia (ia+k)) (ia+k) ib:=(m.symm.fX sa k hk hd).symm
noncomputable def gw (kk:Mx->Int) (a b r:Array Mx):Prop:=r.toList.Perm (a.toList++b.toList)/\Srt kk r.toList
theorem Mg.fin (m:Mg kk a b out a.size b.size):gw kk a b out:=⟨by have:=m.perm;rwa [NX (by simp),NX (by simp)] at this,m.srt⟩
theorem Mg.kZ (m:Mg kk a b out ia b.size) (sa:Srt kk a.toList) (hi:ia<=a.size):gw kk a b (out++a.extract ia a.size++b.extract b.size b.size):=by
 have e:b.extract b.size b.size = #[]:=by simp
 rw[e]
 have:=m.kI sa (a.size - ia) (by lia) (fun j hj _ _ y hy=>by rw[NY (by simp)] at hy;cases hy)
 rw[show ia+(a.size - ia)=a.size by lia] at this
 exact this.fin
theorem Mg.jz (m:Mg kk a b out a.size ib) (sb:Srt kk b.toList) (hi:ib<=b.size):gw kk a b (out++a.extract a.size a.size++b.extract ib b.size):=by
 have e:a.extract a.size a.size = #[]:=by simp
 rw[e]
 have:=m.fX sb (b.size - ib) (by lia) (fun j hj _ _ y hy=>by rw[NY (by simp)] at hy;cases hy)
 rw[show ib+(b.size - ib)=b.size by lia] at this
 exact this.fin
theorem Mg.last (m:Mg kk a b out ia ib) (sa:Srt kk a.toList) (sb:Srt kk b.toList) (hi:ia+1=a.size) (hb:ib<=b.size) (hd:∀y∈b.toList,kk y<kk a[ia]):gw kk a b (out++b.extract ib b.size++a.extract ia a.size):=by
 have hla:a.toList.drop ia=[a[ia]]:=by
  have hl:ia<a.toList.length:=by simp;lia
  rw[MM hl]
  have:a.toList.drop (ia+1)=[]:=by rw[List.drop_eq_nil_iff];simp;lia
  rw[this];simp
 have m1:=m.fX sb (b.size - ib) (by lia) (fun j hj _ _ y hy=>by
  rw[hla,LX] at hy;subst hy
  exact hd _ (by simp))
 rw[show ib+(b.size - ib)=b.size by lia] at m1
 have m2:=m1.kI sa (a.size - ia) (by lia) (fun j hj _ _ y hy=>by rw[NY (by simp)] at hy;cases hy)
 rw[show ia+(a.size - ia)=a.size by lia] at m2
 exact m2.fin
theorem heads (sa:Srt kk a.toList) (hi) (hv:v<kk a[ia]):∀y∈a.toList.drop ia,v<kk y:=by
 have hl:ia<a.toList.length:=by omega
 intro y hy
 rw[MM hl] at hy
 rcases LR.mp hy with rfl | hy
 ·simp_all
 ·have:=tY sa hl y hy
  grind
theorem mq (sa:Srt kk a.toList) (hij:i<j) (hj:j<a.size):kk a[i]<kk a[j]:=by
 have:=MB.mp sa i j (by grind) (by omega) hij
 simp_all
theorem xE (h):kAt kk a i=kk a[i]:=AQ (by simp[h])
end
section
variable {prog:Mc}{w:MU}{A:MY}{E:LM->LP->Prop}{s:LP}{κ:Ox}{P:Mx->Prop}{kk:Mx->Int}{α:Type}{st:L7}{Q:α->L7->Prop}
theorem bp [Decidable c]{x y:StateT L7 Sem α} (h1:c->Gv prog w A E s x st Q) (h2:¬ c->Gv prog w A E s y st Q):Gv prog w A E s (if c then x else y) st Q:=by
 grind
structure dY (st st':L7):Prop where
 kind:kindOf st'=kindOf st
 arr:arrOf st'=arrOf st
 pend:pendingOf st'=pendingOf st
 fail:failedOf st'=failedOf st
theorem dY.refl:dY st st:=⟨rfl,rfl,rfl,rfl⟩
theorem dY.trans (h:dY a b) (g:dY b c):dY a c:=⟨g.1.trans h.1,g.2.trans h.2,g.3.trans h.3,g.4.trans h.4⟩
end
section
variable {prog:Mc}{w:MU}{A:MY}{E:LM->LP->Prop}{s:LP}{κ:Ox}{P:Mx->Prop}{kk:Mx->Int}
structure Two (P:Mx->Prop) (kk) (a b:Array Mx):Prop where
 pa:∀x∈a,P x
 pb:∀x∈b,P x
 sa:Srt kk a.toList
 sb:Srt kk b.toList
 dj:∀x∈a.toList,∀y∈b.toList,kk x≠kk y
theorem Two.ne (t:Two P kk a b) (hi:i<a.size) (hj:j<b.size):kk a[i]≠kk b[j]:=t.dj _ (by simp) _ (by simp)
theorem rh {st:L7} (c:Cmp prog w A s κ P kk) (pa:∀x∈a,P x) (hy:P key) (hk:kindOf st=κ) (hn:i+n<=a.size) (hh:hint<n)
  (sa:∀j m,(hm:m<a.size)->i<=j->(hj:j<m)->m<i+n->kk (a[j]'(by lia))<kk a[m]) (nk:∀j,(hj:j<a.size)->i<=j->j<i+n->kk a[j]≠kk key)
  (h:∀k,k<=n->(∀j,(hj:j<a.size)->i<=j->j<i+k->kk a[j]<kk key)->(∀j,(hj:j<a.size)->i+k<=j->j<i+n->kk key<kk a[j])->Q (some k) st):Gv prog w A E s (pP false key a i n hint) st Q:=by
 have bv:∀m,(hm:i+m<a.size)->m<n->bey kk false key a i m=decide (kk a[i+m]<kk key):=fun m hm hmn=>by
  unfold bey
  rw[xE hm]
  grind
 refine oS c pa hy hk hn hh (fun m n hmn hn' e=>?_) (fun k hk1 e1 e2=>?_)
 ·rw[bv n (by lia) (by lia),decide_eq_true_eq] at e
  rw[bv m (by lia) (by lia),decide_eq_true_eq]
  rcases Nv hmn with z | z
  ·have:=sa (i+m) (i+n) (by lia) (by lia) (by lia) (by lia);lia
  simp_all
 ·refine h k hk1 (fun j hj h1 h2=>?_) (fun j hj h1 h2=>?_)
  ·have:=e1 (j - i) (by lia)
   rw[bv (j - i) (by lia) (by lia),decide_eq_true_eq] at this
   simp_all
  ·have:=e2 (j - i) (by lia) (by lia)
   rw[bv (j - i) (by lia) (by lia),decide_eq_false_iff_not] at this
   have ne:=nk j hj (by lia) h2
   have:¬ kk a[j]<kk key:=by simpa [show i+(j - i)=j by lia] using this
   lia
theorem qd {st:L7} (c:Cmp prog w A s κ P kk) (pa:∀x∈a,P x) (hy:P key) (hk:kindOf st=κ) (hn:i+n<=a.size) (hh:hint<n)
  (sa:∀j m,(hm:m<a.size)->i<=j->(hj:j<m)->m<i+n->kk (a[j]'(by lia))<kk a[m])
  (h:∀k,k<=n->(∀j,(hj:j<a.size)->i<=j->j<i+k->kk a[j]<kk key)->(∀j,(hj:j<a.size)->i+k<=j->j<i+n->¬ kk a[j]<kk key)->Q (some k) st):Gv prog w A E s (pP true key a i n hint) st Q:=by
 have bv:∀m,(hm:i+m<a.size)->bey kk true key a i m=decide (kk a[i+m]<kk key):=fun m hm=>by
  unfold bey
  rw[xE hm];rfl
 refine oS c pa hy hk hn hh (fun m n hmn hn' e=>?_) (fun k hk1 e1 e2=>?_)
 ·rw[bv n (by lia),decide_eq_true_eq] at e
  rw[bv m (by lia),decide_eq_true_eq]
  rcases Nv hmn with z | z
  ·have:=sa (i+m) (i+n) (by lia) (by lia) (by lia) (by lia);lia
  simp_all
 ·refine h k hk1 (fun j hj h1 h2=>?_) (fun j hj h1 h2=>?_)
  ·have:=e1 (j - i) (by lia)
   simp_all
  ·have:=e2 (j - i) (by lia) (by lia)
   rw[bv (j - i) (by lia),decide_eq_false_iff_not] at this
   simpa [show i+(j - i)=j by lia] using this
end
section
variable {prog:Mc}{w:MU}{A:MY}{E:LM->LP->Prop}{s:LP}{κ:Ox}{P:Mx->Prop}{kk:Mx->Int}
structure Mid (kk) (a b out) (ia ib):Prop where
 m:Mg kk a b out ia ib
 ha:ia+1<a.size
 hb:ib<b.size
theorem Gv.modS {st:L7} (hf:dY st (f st)) (h:∀st',dY st st'->Q ⟨⟩ st'):Gv prog w A E s (_root_.modify f:StateT L7 Sem PUnit) st Q:=Gv.modify (h _ hf)
theorem Bp {c:Prop} [Decidable c]{x y:StateT L7 Sem α}{st:L7}{Q:α->L7->Prop} (h:Gv prog w A E s x st Q/\Gv prog w A E s y st Q):Gv prog w A E s (if c then x else y) st Q:=bp (fun _=>h.1) (fun _=>h.2)
theorem EC {c:Prop} [Decidable c]{x y:StateT L7 Sem α}{st:L7}{Q:α->L7->Prop} (h2:¬ c->Gv prog w A E s y st Q) (h1:c->Gv prog w A E s x st Q):Gv prog w A E s (if c then x else y) st Q:=bp h1 h2
theorem xB {R:Array Mx->Nat->StateT L7 Sem α}{F:Array Mx->Nat->Prop}{st:L7} (use:(∀o i,F o i->Gv prog w A E s (R o i) st Q)->Gv prog w A E s x st Q) (h:∀o i,F o i->Gv prog w A E s (R o i) st Q):Gv prog w A E s x st Q:=use h
theorem xq {P:Nat->Prop} (h:∀g,P g) (hy:(∀g,P g)->Y) (g):P g/\Y:=⟨h g,hy h⟩
theorem get_some {a:Array Mx} (h:i<a.size):a[i]?=some a[i]:=by simp[h]
theorem uR {a b:Array Mx}{st:L7}{Q:Array Mx->L7->Prop} (c:Cmp prog w A s κ P kk) (t:Two P kk a b) (hk:kindOf st=κ) (ha:1<=a.size) (hb:1<=b.size) (h0:kk b[0]<kk a[0]) (hl:∀y∈b.toList,kk y<kk a[a.size - 1])
  (h:∀r st',gw kk a b r->dY st st'->Q r st'):Gv prog w A E s (Ao a b) st Q:=by
 have m1:Mg kk a b #[b[0]] 0 1:=by
  have:=(Mg.zero (kk:=kk) (a:=a) (b:=b)).iY t.sb (by lia) (heads t.sa (by lia) h0)
  simpa using this
 have lastOk:∀{out:Array Mx} {ia ib:Nat},Mg kk a b out ia ib->ia+1=a.size->ib<=b.size->gw kk a b (out++b.extract ib b.size++a.extract ia a.size):=fun{out ia ib} m e hb'=>m.last t.sa t.sb e hb' (fun y hy=>by have:=hl y hy;simpa [show a.size - 1=ia by lia] using this)
 have kZ:∀{out:Array Mx} {ia ib:Nat},Mg kk a b out ia ib->ia<=a.size->ib=b.size->gw kk a b (out++a.extract ia a.size++b.extract ib b.size):=fun{out ia ib} m e hb'=>by subst hb';exact m.kZ t.sa e
 with_unfolding_all refine Gv.bind (Gv.rule ?_)
 dsimp only
 refine Gv.bind (Gv.elem (get_some (by lia)) ?_)
 refine bp (fun e=>Gv.pure (h _ _ (kZ m1 (by lia) (by simpa using e)) dY.refl)) (fun e1=>?_)
 refine bp (fun e=>Gv.pure (h _ _ (lastOk m1 (by simpa using e) (by lia)) dY.refl)) (fun e2=>?_)
 have z1:1<b.size:=by have:¬ 1=b.size:=by simpa using e1
                      lia
 have z2:1<a.size:=by have:¬ 0+1=a.size:=by simpa using e2
                      lia
 refine Gv.bind (Gv.get ?_)
 refine Gv.bind (Gv.mono (Q:=fun z st'=>dY st st'/\∃r,z.1=some r/\gw kk a b r) (Gv.range (fun m z st'=>dY st st'/\∃out ia ib mg,z=(none,out,ia,ib,mg)/\Mid kk a b out ia ib/\a.size+b.size<ia+ib+m) ⟨dY.refl,_,_,_,_,rfl,⟨m1,by lia,by lia⟩,by lia⟩ (fun x m z st' hz=>?_) (fun z st' hz=>?_)) (fun z st' hz=>?_))
 ·obtain⟨sm,out,ia,ib,mg,rfl,md,pr⟩:=hz
  have hk':kindOf st'=κ:=sm.kind.trans hk
  dsimp only
  refine Gv.bind (Gv.mono (Q:=fun z st''=>dY st st''/\((∃r o i j p q,z=(some r,o,i,j,p,q)/\gw kk a b r)\/∃o i j p q,z=(none,o,i,j,p,q)/\Mid kk a b o i j/\ia+ib<i+j)) (Gv.range (fun m' z st''=>dY st st''/\∃o i j p q,z=(none,o,i,j,p,q)/\Mid kk a b o i j/\ia+ib<=i+j/\ia+ib+(a.size+b.size)<=i+j+m') ⟨sm,_,_,_,_,_,rfl,md,by lia,by lia⟩ (fun x m' z st'' hz=>?_) (fun z st'' hz=>?_)) (fun z st'' hz=>?_))
  ·obtain⟨sm2,o,i,j,p,q,rfl,md2,pr0,pr2⟩:=hz
   clear pr z1 z2 e1 e2 m1 h0 hl ha hb
   have hk2:kindOf st''=κ:=sm2.kind.trans hk
   have ha2:=md2.ha
   have hi:i<a.size:=by lia
   have hj:=md2.hb
   dsimp only
   refine Gv.bind (Gv.elem (get_some hj) ?_)
   refine Gv.bind (Gv.elem (get_some hi) ?_)
   refine Gv.bind (Gv.ltC c (t.pb _ (Mp hj)) (t.pa _ (Mp hi)) hk2 ?_)
   dsimp only
   by_cases lt:kk b[j]<kk a[i]
   ·rw[decide_eq_true lt,if_pos rfl]
    have m3:=md2.m.iY t.sb hj (heads t.sa hi lt)
    refine Gv.bind (Gv.elem (get_some hj) ?_)
    refine bp (fun e=>Gv.pure ⟨sm2,.inl ⟨_,_,_,_,_,_,rfl,kZ m3 (by lia) (by simpa using e)⟩⟩) (fun e=>?_)
    have e':¬ j+1=b.size:=by simpa using e
    exact bp (fun _=>Gv.pure ⟨sm2,.inr ⟨_,_,_,_,_,rfl,⟨m3,by lia,by lia⟩,by lia⟩⟩) (fun _=>Gv.pure ⟨sm2,_,_,_,_,_,rfl,⟨m3,by lia,by lia⟩,by lia,by lia⟩)
   ·have gt:kk a[i]<kk b[j]:=by have:=t.ne hi hj;lia
    rw[decide_eq_false lt,if_neg (by decide)]
    have m3:=md2.m.k9 t.sa hi (heads t.sb hj gt)
    refine Gv.bind (Gv.elem (get_some hi) ?_)
    refine bp (fun e=>Gv.pure ⟨sm2,.inl ⟨_,_,_,_,_,_,rfl,lastOk m3 (by simpa using e) (by lia)⟩⟩) (fun e=>?_)
    have e':¬ i+1+1=a.size:=by simpa using e
    exact bp (fun _=>Gv.pure ⟨sm2,.inr ⟨_,_,_,_,_,rfl,⟨m3,by lia,hj⟩,by lia⟩⟩) (fun _=>Gv.pure ⟨sm2,_,_,_,_,_,rfl,⟨m3,by lia,hj⟩,by lia,by lia⟩)
  ·obtain⟨sm2,o,i,j,p,q,rfl,md2,pr0,pr2⟩:=hz
   exact⟨sm2,.inr ⟨_,_,_,_,_,rfl,md2,by lia⟩⟩
  ·obtain⟨sm2,⟨r,o,i,j,p,q,rfl,fr⟩ | ⟨o,i,j,p,q,rfl,md2,pr2⟩⟩:=hz
   ·exact Gv.pure ⟨sm2,r,rfl,fr⟩
   ·dsimp only
    refine Gv.bind (Gv.rule ?_)
    refine Gv.bind (Gv.mono (Q:=fun z st4=>dY st st4/\((∃r o i j g p q,z=(some r,o,i,j,g,p,q)/\gw kk a b r)\/∃o i j g p q,z=(none,o,i,j,g,p,q)/\Mid kk a b o i j/\ia+ib<i+j)) (Gv.range (fun m' z st4=>dY st st4/\∃o i j g p q,z=(none,o,i,j,g,p,q)/\Mid kk a b o i j/\ia+ib<i+j) ⟨sm2,_,_,_,_,_,_,rfl,md2,pr2⟩ (fun x m' z st4 hz=>?_) (fun z st4 hz=>?_)) (fun z st4 hz=>?_))
    ·obtain⟨sm4,o,i,j,g,p,q,rfl,md4,pr4⟩:=hz
     clear pr pr2 md md2 z1 z2 e1 e2 m1 h0 hl ha hb
     have ha4:=md4.ha
     have hj:=md4.hb
     have hi:i<a.size:=by lia
     dsimp only
     refine Bp ?_
     generalize g - 1=g1
     revert g1
     refine xq (fun g'=>?_) (fun f=>f g)
     ·with_unfolding_all refine Gv.bind (Gv.modS ⟨rfl,rfl,rfl,rfl⟩ (fun st3 sm3'=>?_))
      have sm3:=sm4.trans sm3'
      have hk3:kindOf st3=κ:=sm3.kind.trans hk
      refine Gv.bind (Gv.elem (get_some hj) ?_)
      refine Gv.bind (rh c t.pa (t.pb _ (Mp hj)) hk3 (show i+(a.size - i)<=a.size by lia) (by lia) (fun p q hq _ hpq _=>mq t.sa hpq hq) (fun p hp _ _=>t.ne hp hj) (fun k hk1 e1 e2=>?_))
      dsimp only
      apply xB (F:=fun o' I=>Mg kk a b o' I j/\i<=I/\I+1<a.size/\∃hI:I<a.size,kk b[j]<kk a[I])
      ·intro key
       refine EC (fun k0=>?_) (fun k0=>?_)
       ·generalize ho:o=o1
        generalize hi':i=i1
        refine key o1 i1 ?_
        subst ho hi'
        exact⟨md4.m,by lia,ha4,hi,e2 i hi (by lia) (by lia)⟩
       have m3:=md4.m.kI t.sa k (by lia) (fun p hp h1 h2=>heads t.sb hj (e1 p hp h1 h2))
       refine bp (fun e=>Gv.pure ⟨sm3,.inl ⟨_,_,_,_,_,_,_,rfl,lastOk m3 (by simpa using e) (by lia)⟩⟩) (fun ne1=>?_)
       refine bp (fun e=>?_) (fun ne2=>?_)
       ·have e':i+k=a.size:=by simpa using e
        have m3':=m3
        rw[e'] at m3'
        refine Gv.pure ⟨sm3,.inl ⟨_,_,_,_,_,_,_,rfl,?_⟩⟩
        rw[e']
        exact m3'.jz t.sb (by lia)
       ·have ne1':¬ i+k+1=a.size:=by simpa using ne1
        have ne2':¬ i+k=a.size:=by simpa using ne2
        have hI:i+k<a.size:=by lia
        have gtI:kk b[j]<kk a[i+k]:=e2 (i+k) hI (by lia) (by lia)
        exact key _ _ ⟨m3,by lia,by lia,hI,gtI⟩
      ·rintro o' I ⟨m3,iI,ha5,hI,gtI⟩
       refine Gv.bind (Gv.elem (get_some hj) ?_)
       have m4:=m3.iY t.sb hj (heads t.sa hI gtI)
       refine bp (fun e=>Gv.pure ⟨sm3,.inl ⟨_,_,_,_,_,_,_,rfl,kZ m4 (by lia) (by simpa using e)⟩⟩) (fun ne3=>?_)
       have ne3':¬ j+1=b.size:=by simpa using ne3
       refine Gv.bind (Gv.elem (get_some hI) ?_)
       refine Gv.bind (qd c t.pb (t.pa _ (Mp hI)) hk3 (show j+1+(b.size - (j+1))<=b.size by lia) (by lia) (fun p q hq _ hpq _=>mq t.sb hpq hq) (fun k1 hk1 f1 f2=>?_))
       dsimp only
       by_cases k10:k1 > 0
       ·rw[if_pos k10]
        have m5:=m4.fX t.sb k1 (by lia) (fun q hq h1 h2=>heads t.sa hI (f1 q hq h1 h2))
        refine bp (fun e=>Gv.pure ⟨sm3,.inl ⟨_,_,_,_,_,_,_,rfl,kZ m5 (by lia) (by simpa using e)⟩⟩) (fun ne4=>?_)
        have ne4':¬ j+1+k1=b.size:=by simpa using ne4
        have hJ:j+1+k1<b.size:=by lia
        have ltJ:kk a[I]<kk b[j+1+k1]:=by have:=f2 _ hJ (by lia) (by lia);have:=t.ne hI hJ;lia
        refine Gv.bind (Gv.elem (get_some hI) ?_)
        have m6:=m5.k9 t.sa hI (heads t.sb hJ ltJ)
        refine bp (fun e=>Gv.pure ⟨sm3,.inl ⟨_,_,_,_,_,_,_,rfl,lastOk m6 (by simpa using e) (by lia)⟩⟩) (fun ne5=>?_)
        have ne5':¬ I+1+1=a.size:=by simpa using ne5
        exact bp (fun _=>Gv.pure ⟨sm3,.inr ⟨_,_,_,_,_,_,rfl,⟨m6,by lia,hJ⟩,by lia⟩⟩) (fun _=>Gv.pure ⟨sm3,_,_,_,_,_,_,rfl,⟨m6,by lia,hJ⟩,by lia⟩)
       ·rw[if_neg k10]
        have m5:=m4
        have hJ:j+1<b.size:=by lia
        have ltJ:kk a[I]<kk b[j+1]:=by have:=f2 _ hJ (by lia) (by lia);have:=t.ne hI hJ;lia
        refine Gv.bind (Gv.elem (get_some hI) ?_)
        have m6:=m5.k9 t.sa hI (heads t.sb hJ ltJ)
        refine bp (fun e=>Gv.pure ⟨sm3,.inl ⟨_,_,_,_,_,_,_,rfl,lastOk m6 (by simpa using e) (by lia)⟩⟩) (fun ne5=>?_)
        have ne5':¬ I+1+1=a.size:=by simpa using ne5
        exact bp (fun _=>Gv.pure ⟨sm3,.inr ⟨_,_,_,_,_,_,rfl,⟨m6,by lia,hJ⟩,by lia⟩⟩) (fun _=>Gv.pure ⟨sm3,_,_,_,_,_,_,rfl,⟨m6,by lia,hJ⟩,by lia⟩)
    ·obtain⟨sm4,o,i,j,g,p,q,rfl,md4,pr4⟩:=hz
     exact⟨sm4,.inr ⟨_,_,_,_,_,_,rfl,md4,pr4⟩⟩
    ·obtain⟨sm4,⟨r,o,i,j,g,p,q,rfl,fr⟩ | ⟨o,i,j,g,p,q,rfl,md4,pr4⟩⟩:=hz
     ·exact Gv.pure ⟨sm4,r,rfl,fr⟩
     ·dsimp only
      with_unfolding_all refine Gv.bind (Gv.modS ⟨rfl,rfl,rfl,rfl⟩ (fun st3 sm3'=>?_))
      exact Gv.pure ⟨sm4.trans sm3',_,_,_,_,rfl,md4,by lia⟩
 ·obtain⟨sm,out,ia,ib,mg,rfl,md,pr⟩:=hz
  have:=md.ha
  have:=md.hb
  lia
 ·obtain⟨sm,r,e,fr⟩:=hz
  rw[e]
  exact Gv.pure (h r st' fr sm)
end
section
variable {kk:Mx->Int}{a b out:Array Mx}{na nb:Nat}
structure Mh (kk:Mx->Int) (a b out:Array Mx) (na nb):Prop where
 perm:out.toList.Perm (a.toList.drop na++b.toList.drop nb)
 srt:out.toList.Pairwise fun x y=>kk y<kk x
 la:∀x∈out.toList,∀y∈a.toList.take na,kk y<kk x
 lb:∀x∈out.toList,∀y∈b.toList.take nb,kk y<kk x
theorem Mh.symm (m:Mh kk a b out na nb):Mh kk b a out nb na:=⟨m.perm.trans List.perm_append_comm,m.srt,m.lb,m.la⟩
theorem Mh.zero:Mh kk a b #[] a.size b.size:=⟨by simp,O_,fun x hx=>by grind,fun x hx=>by grind⟩
theorem wd {l:List Mx} (h):l.take (n+1)=l.take n++[l[n]]:=List.take_succ_eq_append_getElem h
theorem Mh.iY (m:Mh kk a b out na (nb+1)) (sb:Srt kk b.toList) (hi) (hd:∀y∈a.toList.take na,kk y<kk b[nb]):Mh kk a b (out.push b[nb]) na nb:=by
 have hl:nb<b.toList.length:=by omega
 have eb:b.toList[nb]=b[nb]:=by simp
 have et:=wd hl
 have bm:b[nb]∈b.toList.take (nb+1):=by simp_all
 have es:(out.push b[nb]).toList=out.toList++[b[nb]]:=by simp
 refine⟨?_,?_,?_,?_⟩
 ·rw[es,MM hl]
  refine(List.perm_append_singleton _ _).trans ?_
  refine QG.trans ?_ List.perm_middle.symm
  exact m.perm.cons _
 ·rw[es]
  exact L8.mpr ⟨m.srt,M_ _ _,fun x hx y hy=>by rw[LX] at hy;subst hy;exact m.lb x hx _ bm⟩
 ·intro x hx y hy
  rw[es] at hx
  rcases Ml.mp hx with hx | hx
  ·exact m.la x hx y hy
  simp_all
 ·intro x hx y hy
  rw[es] at hx
  rcases Ml.mp hx with hx | hx
  ·exact m.lb x hx y (by simp_all)
  ·rw[LX] at hx;subst hx
   obtain⟨i,hi',rfl⟩:=Pt.mp hy
   rw[Nf] at hi'
   rw[List.getElem_take]
   have:=MB.mp sb i nb (by lia) hl (by lia)
   simp_all
theorem Mh.k9 (m:Mh kk a b out (na+1) nb) (sa:Srt kk a.toList) (hi) (hd:∀y∈b.toList.take nb,kk y<kk a[na]):Mh kk a b (out.push a[na]) na nb:=(m.symm.iY sa hi hd).symm
theorem Mh.fX (sb:Srt kk b.toList):∀(k nb:Nat){out:Array Mx},Mh kk a b out na (nb+k)->nb+k<=b.size->(∀j,(hj:j<b.size)->nb<=j->j<nb+k->∀y∈a.toList.take na,kk y<kk b[j])->Mh kk a b (out++(b.extract nb (nb+k)).reverse) na nb
 | 0,nb,out,m,_,_=>by
  have e:b.extract nb (nb+0) = #[]:=by simp;lia
  rw[e];simpa using m
 | k+1,nb,out,m,hk,hd=>by
  have ih:=Mh.fX sb k (nb+1) (by rw[show nb+1+k=nb+(k+1) by lia];exact m) (by lia) (fun j hj h1 h2=>hd j hj (by lia) (by lia))
  have e:out++(b.extract nb (nb+(k+1))).reverse=(out++(b.extract (nb+1) (nb+1+k)).reverse).push b[nb]:=by
   rw[<- Array.append_push]
   have e2:b.extract nb (nb+(k+1)) = #[b[nb]]++b.extract (nb+1) (nb+1+k):=by
    apply Array.ext
    ·simp;lia
    ·intro i h1 h2
     rw[OC,Array.getElem_append]
     split
     ·rename_i hz
      have:i=0:=by simpa using hz
      subst this;simp
     ·rename_i hz
      have:1<=i:=by simp at hz;lia
      rw[OC]
      congr 1
      simp
      lia
   rw[e2]
   simp
  rw[e]
  exact ih.iY sb (by lia) (hd nb (by lia) (by lia) (by lia))
theorem Mh.kI (sa:Srt kk a.toList) (k na) (m:Mh kk a b out (na+k) nb) (hk:na+k<=a.size) (hd:∀j,(hj:j<a.size)->na<=j->j<na+k->∀y∈b.toList.take nb,kk y<kk a[j]):Mh kk a b (out++(a.extract na (na+k)).reverse) na nb:=(Mh.fX sa k na m.symm hk hd).symm
theorem Mh.fin (m:Mh kk a b out 0 0):gw kk a b out.reverse:=by
 refine⟨?_,?_⟩
 ·rw[Array.toList_reverse]
  refine(List.reverse_perm _).trans ?_
  have:=m.perm;simp_all
 ·unfold Srt;rw[Array.toList_reverse,List.pairwise_reverse];exact m.srt
theorem xO (x y:Array Mx):(x++y.reverse).reverse=y++x.reverse:=by
 simp
theorem Mh.jz (m:Mh kk a b out 0 nb) (sb:Srt kk b.toList) (hi:nb<=b.size):gw kk a b (a.extract 0 0++b.extract 0 nb++out.reverse):=by
 have e:a.extract 0 0 = #[]:=by simp
 rw[e,Array.empty_append]
 have:=Mh.fX sb nb 0 (by rw[NQ];exact m) (by lia) (fun j hj _ _ y hy=>by grind)
 rw[NQ] at this
 have f:=this.fin
 simp_all
theorem Mh.kZ (m:Mh kk a b out na 0) (sa:Srt kk a.toList) (hi:na<=a.size):gw kk a b (a.extract 0 na++b.extract 0 0++out.reverse):=by
 have e:b.extract 0 0 = #[]:=by simp
 rw[e]
 have:=Mh.kI sa na 0 (by rw[NQ];exact m) (by lia) (fun j hj _ _ y hy=>by grind)
 rw[NQ] at this
 have f:=this.fin
 simp_all
theorem Mh.first (m:Mh kk a b out na 1) (sa:Srt kk a.toList) (sb:Srt kk b.toList) (hi:na<=a.size) (hb:0<b.size) (hd:∀y∈a.toList,kk b[0]<kk y):gw kk a b (b.extract 0 1++a.extract 0 na++out.reverse):=by
 have hb1:b.toList.take 1=[b[0]]:=by rw[wd (by simpa using hb)];simp
 have m1:=Mh.kI sa na 0 (by rw[NQ];exact m) (by lia) (fun j hj _ _ y hy=>by
  rw[hb1,LX] at hy;subst hy
  exact hd _ (by simp))
 have m2:=Mh.fX sb 1 0 (by rw[NQ];exact m1) (by lia) (fun j hj _ _ y hy=>by simp at hy)
 rw[NQ] at m2
 have f:=m2.fin
 rw[xO,xO,<- Array.append_assoc] at f
 exact f
theorem tW (sa:Srt kk a.toList) (hi) (hv:kk a[i]<v):∀y∈a.toList.take (i+1),kk y<v:=by
 intro y hy
 obtain⟨j,hj,rfl⟩:=Pt.mp hy
 rw[Nf] at hj
 rw[List.getElem_take]
 rcases Qn j i with z | z
 ·have:=mq sa z hi
  grind
 grind
end
section
variable {prog:Mc}{w:MU}{A:MY}{E:LM->LP->Prop}{s:LP}{κ:Ox}{P:Mx->Prop}{kk:Mx->Int}
structure Mih (kk) (a b out) (na nb):Prop where
 m:Mh kk a b out na nb
 ha:1<=na
 hb:2<=nb
 la:na<=a.size
 lb:nb<=b.size
theorem Mh.wN (sb:Srt kk b.toList) (hle:k<=hi) (m:Mh kk a b out na hi) (hh:hi<=b.size) (hd:∀j,(hj:j<b.size)->k<=j->j<hi->∀y∈a.toList.take na,kk y<kk b[j]):Mh kk a b (out++(b.extract k hi).reverse) na k:=by
 obtain⟨d,rfl⟩:=Nat.exists_eq_add_of_le hle
 exact Mh.fX sb d k m hh hd
theorem Mh.Ck (sa:Srt kk a.toList) (hle:k<=hi) (m:Mh kk a b out hi nb) (hh:hi<=a.size) (hd:∀j,(hj:j<a.size)->k<=j->j<hi->∀y∈b.toList.take nb,kk y<kk a[j]):Mh kk a b (out++(a.extract k hi).reverse) k nb:=(Mh.wN sa hle m.symm hh hd).symm
theorem get_eq {a:Array Mx} (h:i<a.size) (e:k=i):a[k]?=some a[i]:=by simp_all
theorem uM {a b:Array Mx}{st:L7}{Q:Array Mx->L7->Prop} (c:Cmp prog w A s κ P kk) (t:Two P kk a b) (hk:kindOf st=κ) (ha:1<=a.size) (hb:1<=b.size) (h0:∀y∈a.toList,kk b[0]<kk y) (hl:kk b[b.size - 1]<kk a[a.size - 1])
  (h:∀r st',gw kk a b r->dY st st'->Q r st'):Gv prog w A E s (Bf a b) st Q:=by
 obtain⟨A1,hA1⟩:∃A1,a.size=A1+1:=⟨a.size - 1,by lia⟩
 have hA:A1<a.size:=by lia
 have eA:a.size - 1=A1:=by lia
 have m1:Mh kk a b #[a[A1]] A1 b.size:=by
  have:=(Mh.zero (kk:=kk) (a:=a) (b:=b))
  have t1:=tW t.sb (i:=b.size - 1) (by lia) (show kk b[b.size - 1]<kk a[A1] by have:=hl;simpa [eA] using this)
  rw[show b.size - 1+1=b.size by lia] at t1
  have:=Mh.k9 (na:=A1) (by rw[<- hA1];exact this) t.sa hA t1
  simpa using this
 have firstOk:∀{out:Array Mx} {na:Nat},Mh kk a b out na 1->na<=a.size->gw kk a b (b.extract 0 1++a.extract 0 na++out.reverse):=fun{out na} m e=>m.first t.sa t.sb e (by lia) h0
 have jz:∀{out:Array Mx} {na nb:Nat},Mh kk a b out na nb->na=0->nb<=b.size->gw kk a b (a.extract 0 na++b.extract 0 nb++out.reverse):=fun{out na nb} m e hb'=>by subst e;exact m.jz t.sb hb'
 with_unfolding_all refine Gv.bind (Gv.rule ?_)
 dsimp only
 refine Gv.bind (Gv.elem (get_eq hA eA) ?_)
 refine bp (fun e=>?_) (fun e1=>?_)
 ·have e':a.size - 1=0:=by simpa using e
  rw[eA]
  exact Gv.pure (h _ _ (jz m1 (by lia) (by lia)) dY.refl)
 refine bp (fun e=>?_) (fun e2=>?_)
 ·have e':b.size=1:=by simpa using e
  rw[e'] at m1
  rw[e',eA]
  exact Gv.pure (h _ _ (firstOk m1 (by lia)) dY.refl)
 have z1:¬ a.size - 1=0:=by simpa using e1
 have z2:¬ b.size=1:=by simpa using e2
 refine Gv.bind (Gv.get ?_)
 refine Gv.bind (Gv.mono (Q:=fun z st'=>dY st st'/\∃r,z.1=some r/\gw kk a b r) (Gv.range (fun m z st'=>dY st st'/\∃na nb out mg,z=(none,na,nb,out,mg)/\Mih kk a b out na nb/\na+nb<m+1) ⟨dY.refl,a.size - 1,_,_,_,rfl,⟨by rw[eA];exact m1,by lia,by lia,by lia,by lia⟩,by lia⟩ (fun x m z st' hz=>?_) (fun z st' hz=>?_)) (fun z st' hz=>?_))
 ·obtain⟨sm,na,nb,out,mg,rfl,md,pr⟩:=hz
  dsimp only
  refine Gv.bind (Gv.mono (Q:=fun z st''=>dY st st''/\((∃r x y o p q,z=(some r,x,y,o,p,q)/\gw kk a b r)\/∃x y o p q,z=(none,x,y,o,p,q)/\Mih kk a b o x y/\x+y<na+nb)) (Gv.range (fun m' z st''=>dY st st''/\∃x y o p q,z=(none,x,y,o,p,q)/\Mih kk a b o x y/\x+y<=na+nb/\x+y+(a.size+b.size)<=na+nb+m') ⟨sm,_,_,_,_,_,rfl,md,by lia,by lia⟩ (fun x m' z st'' hz=>?_) (fun z st'' hz=>?_)) (fun z st'' hz=>?_))
  ·obtain⟨sm2,x2,y2,o,p,q,rfl,⟨mm,ha2,hb2,la2,lb2⟩,pr0,pr2⟩:=hz
   clear pr md z1 z2 e1 e2 m1 hl eA hA hA1
   obtain⟨i,rfl⟩:∃i,x2=i+1:=⟨x2 - 1,by lia⟩
   obtain⟨j,rfl⟩:∃j,y2=j+2:=⟨y2 - 2,by lia⟩
   have hk2:kindOf st''=κ:=sm2.kind.trans hk
   have hi:i<a.size:=by lia
   have hj:j+1<b.size:=by lia
   dsimp only
   refine Gv.bind (Gv.elem (get_eq hj (by lia)) ?_)
   refine Gv.bind (Gv.elem (get_eq hi (by lia)) ?_)
   refine Gv.bind (Gv.ltC c (t.pb _ (Mp hj)) (t.pa _ (Mp hi)) hk2 ?_)
   dsimp only
   by_cases lt:kk b[j+1]<kk a[i]
   ·rw[decide_eq_true lt,if_pos rfl]
    have m3:Mh kk a b _ i (j+2):=mm.k9 t.sa hi (tW t.sb hj lt)
    refine Gv.bind (Gv.elem (get_eq hi (by lia)) ?_)
    refine bp (fun e=>Gv.pure ⟨sm2,.inl ⟨_,_,_,_,_,_,rfl,jz m3 (by simpa using e) (by lia)⟩⟩) (fun e=>?_)
    have e':¬ i=0:=by simpa using e
    exact bp (fun _=>Gv.pure ⟨sm2,.inr ⟨i,j+2,_,_,_,rfl,⟨m3,by lia,by lia,by lia,by lia⟩,by lia⟩⟩) (fun _=>Gv.pure ⟨sm2,i,j+2,_,_,_,rfl,⟨m3,by lia,by lia,by lia,by lia⟩,by lia,by lia⟩)
   ·have gt:kk a[i]<kk b[j+1]:=by have:=t.ne hi hj;lia
    rw[decide_eq_false lt,if_neg (by decide)]
    have m3:Mh kk a b _ (i+1) (j+1):=mm.iY t.sb hj (tW t.sa hi gt)
    refine Gv.bind (Gv.elem (get_eq hj (by lia)) ?_)
    refine bp (fun e=>?_) (fun e=>?_)
    ·have e':j=0:=by simpa using e
     subst e'
     exact Gv.pure ⟨sm2,.inl ⟨_,_,_,_,_,_,rfl,firstOk m3 (by lia)⟩⟩
    have e':¬ j=0:=by simpa using e
    exact bp (fun _=>Gv.pure ⟨sm2,.inr ⟨i+1,j+1,_,_,_,rfl,⟨m3,by lia,by lia,by lia,by lia⟩,by lia⟩⟩) (fun _=>Gv.pure ⟨sm2,i+1,j+1,_,_,_,rfl,⟨m3,by lia,by lia,by lia,by lia⟩,by lia,by lia⟩)
  ·obtain⟨sm2,x2,y2,o,p,q,rfl,md2,pr0,pr2⟩:=hz
   exact⟨sm2,.inr ⟨_,_,_,_,_,rfl,md2,by lia⟩⟩
  ·obtain⟨sm2,⟨r,x2,y2,o,p,q,rfl,fr⟩ | ⟨x2,y2,o,p,q,rfl,md2,pr2⟩⟩:=hz
   ·exact Gv.pure ⟨sm2,r,rfl,fr⟩
   ·dsimp only
    refine Gv.bind (Gv.rule ?_)
    refine Gv.bind (Gv.mono (Q:=fun z st4=>dY st st4/\((∃r x y o g p q,z=(some r,x,y,o,g,p,q)/\gw kk a b r)\/∃x y o g p q,z=(none,x,y,o,g,p,q)/\Mih kk a b o x y/\x+y<na+nb)) (Gv.range (fun m' z st4=>dY st st4/\∃x y o g p q,z=(none,x,y,o,g,p,q)/\Mih kk a b o x y/\x+y<na+nb) ⟨sm2,_,_,_,_,_,_,rfl,md2,pr2⟩ (fun x m' z st4 hz=>?_) (fun z st4 hz=>?_)) (fun z st4 hz=>?_))
    ·obtain⟨sm4,x4,y4,o,g,p,q,rfl,⟨mm,ha4,hb4,la4,lb4⟩,pr4⟩:=hz
     clear pr pr2 md md2 z1 z2 e1 e2 m1 hl eA hA hA1
     obtain⟨i,rfl⟩:∃i,x4=i+1:=⟨x4 - 1,by lia⟩
     obtain⟨j,rfl⟩:∃j,y4=j+2:=⟨y4 - 2,by lia⟩
     have hj:j+1<b.size:=by lia
     have hi:i<a.size:=by lia
     dsimp only
     refine Bp ?_
     generalize g - 1=g1
     revert g1
     refine xq (fun g'=>?_) (fun f=>f g)
     ·with_unfolding_all refine Gv.bind (Gv.modS ⟨rfl,rfl,rfl,rfl⟩ (fun st3 sm3'=>?_))
      have sm3:=sm4.trans sm3'
      have hk3:kindOf st3=κ:=sm3.kind.trans hk
      refine Gv.bind (Gv.elem (get_eq hj (by lia)) ?_)
      refine Gv.bind (rh (n:=i+1) (hint:=i) c t.pa (t.pb _ (Mp hj)) hk3 (by lia) (by lia) (fun p q hq _ hpq _=>mq t.sa hpq hq) (fun p hp _ _=>t.ne hp hj) (fun k hk1 e1 e2=>?_))
      dsimp only
      apply xB (F:=fun o' k'=>∃I,∃hI:I<a.size,k'=I+1/\Mh kk a b o' (I+1) (j+2)/\I<=i/\kk a[I]<kk b[j+1])
      ·intro key
       by_cases k0:i+1 - k > 0
       ·rw[if_pos k0]
        have m3':=Mh.Ck t.sa (show k<=i+1 by lia) mm (by lia) (fun p hp h1 h2=>tW t.sb hj (e2 p hp (by lia) (by lia)))
        refine bp (fun e=>Gv.pure ⟨sm3,.inl ⟨_,_,_,_,_,_,_,rfl,jz m3' (by simpa using e) (by lia)⟩⟩) (fun ne1=>?_)
        have ne1':¬ k=0:=by simpa using ne1
        generalize o++(a.extract k (i+1)).reverse=o' at m3' ⊢
        obtain⟨I,hI⟩:∃I,k=I+1:=⟨k - 1,by lia⟩
        have z:∃I,∃hI:I<a.size,k=I+1/\Mh kk a b o' (I+1) (j+2)/\I<=i/\kk a[I]<kk b[j+1]:=⟨I,by lia,hI,by rw[<- hI];exact m3',by lia,e1 I (by lia) (by lia) (by lia)⟩
        revert z
        generalize k=k2
        exact key o' k2
       ·have e':k=i+1:=by lia
        subst e'
        rw[if_neg k0]
        exact key o (i+1) ⟨i,hi,rfl,mm,by lia,e1 i hi (by lia) (by lia)⟩
      ·rintro o' k' ⟨I,hI,ek,m3,iI,gtI⟩
       subst ek
       refine Gv.bind (Gv.elem (get_eq hj (by lia)) ?_)
       have m4:Mh kk a b _ (I+1) (j+1):=Mh.iY m3 t.sb hj (tW t.sa hI gtI)
       refine bp (fun e=>?_) (fun ne3=>?_)
       ·have e':j=0:=by simpa using e
        subst e'
        exact Gv.pure ⟨sm3,.inl ⟨_,_,_,_,_,_,_,rfl,firstOk m4 (by lia)⟩⟩
       have ne3':¬ j=0:=by simpa using ne3
       refine Gv.bind (Gv.elem (get_eq hI (by lia)) ?_)
       refine Gv.bind (qd (n:=j+1) (hint:=j) c t.pb (t.pa _ (Mp hI)) hk3 (by lia) (by lia) (fun p q hq _ hpq _=>mq t.sb hpq hq) (fun k1 hk1 f1 f2=>?_))
       dsimp only
       refine bp (fun k10=>?_) (fun k10=>?_)
       ·skip
        have m5:=Mh.wN t.sb (show k1<=j+1 by lia) m4 (by lia) (fun q hq h1 h2=>tW t.sa hI (by have:=f2 q hq (by lia) (by lia);have:=t.ne hI hq;lia))
        refine bp (fun e=>?_) (fun ne4=>?_)
        ·have e':k1=1:=by simpa using e
         subst e'
         exact Gv.pure ⟨sm3,.inl ⟨_,_,_,_,_,_,_,rfl,firstOk m5 (by lia)⟩⟩
        refine bp (fun e=>?_) (fun ne6=>?_)
        ·have e':k1=0:=by simpa using e
         subst e'
         exact Gv.pure ⟨sm3,.inl ⟨_,_,_,_,_,_,_,rfl,m5.kZ t.sa (by lia)⟩⟩
        have ne4':¬ k1=1:=by simpa using ne4
        have ne6':¬ k1=0:=by simpa using ne6
        have ltJ:∀y∈b.toList.take k1,kk y<kk a[I]:=by
         have:=tW t.sb (i:=k1 - 1) (by lia) (f1 (k1 - 1) (by lia) (by lia) (by lia))
         rwa [show k1 - 1+1=k1 by lia] at this
        refine Gv.bind (Gv.elem (get_eq hI (by lia)) ?_)
        have m6:Mh kk a b _ I k1:=Mh.k9 m5 t.sa hI ltJ
        refine bp (fun e=>Gv.pure ⟨sm3,.inl ⟨_,_,_,_,_,_,_,rfl,jz m6 (by simpa using e) (by lia)⟩⟩) (fun ne5=>?_)
        have ne5':¬ I=0:=by simpa using ne5
        exact bp (fun _=>Gv.pure ⟨sm3,.inr ⟨I,k1,_,_,_,_,rfl,⟨m6,by lia,by lia,by lia,by lia⟩,by lia⟩⟩) (fun _=>Gv.pure ⟨sm3,I,k1,_,_,_,_,rfl,⟨m6,by lia,by lia,by lia,by lia⟩,by lia⟩)
       ·skip
        have e1':k1=j+1:=by lia
        have m5:=m4
        have ltJ:∀y∈b.toList.take (j+1),kk y<kk a[I]:=tW t.sb (by lia) (f1 j (by lia) (by lia) (by lia))
        refine Gv.bind (Gv.elem (get_eq hI (by lia)) ?_)
        have m6:Mh kk a b _ I (j+1):=Mh.k9 m5 t.sa hI ltJ
        refine bp (fun e=>Gv.pure ⟨sm3,.inl ⟨_,_,_,_,_,_,_,rfl,jz m6 (by simpa using e) (by lia)⟩⟩) (fun ne5=>?_)
        have ne5':¬ I=0:=by simpa using ne5
        exact bp (fun _=>Gv.pure ⟨sm3,.inr ⟨I,(j+1),_,_,_,_,rfl,⟨m6,by lia,by lia,by lia,by lia⟩,by lia⟩⟩) (fun _=>Gv.pure ⟨sm3,I,(j+1),_,_,_,_,rfl,⟨m6,by lia,by lia,by lia,by lia⟩,by lia⟩)
    ·obtain⟨sm4,x4,y4,o,g,p,q,rfl,md4,pr4⟩:=hz
     exact⟨sm4,.inr ⟨_,_,_,_,_,_,rfl,md4,pr4⟩⟩
    ·obtain⟨sm4,⟨r,x4,y4,o,g,p,q,rfl,fr⟩ | ⟨x4,y4,o,g,p,q,rfl,md4,pr4⟩⟩:=hz
     ·exact Gv.pure ⟨sm4,r,rfl,fr⟩
     ·dsimp only
      with_unfolding_all refine Gv.bind (Gv.modS ⟨rfl,rfl,rfl,rfl⟩ (fun st3 sm3'=>?_))
      exact Gv.pure ⟨sm4.trans sm3',_,_,_,_,rfl,md4,by lia⟩
 ·obtain⟨sm,na,nb,out,mg,rfl,md,pr⟩:=hz
  have:=md.ha
  lia
 ·obtain⟨sm,r,e,fr⟩:=hz
  rw[e]
  exact Gv.pure (h r st' fr sm)
end
section
variable {kk:Mx->Int}
noncomputable def seg (a:Array Mx) (lo n:Nat):List Mx:=(a.toList.drop lo).take n
theorem df {lo n:Nat} (h:lo+n<=a.size):(seg a lo n).length=n:=by unfold seg;grind
theorem jA {lo n i:Nat} (h) (hi):(seg a lo n)[i]'(by rw[df h];exact hi)=a[lo+i]:=by
 unfold seg;simp
theorem cK (a) (lo n k) (h:k<=n):seg a lo n=seg a lo k++seg a (lo+k) (n - k):=by
 unfold seg
 rw[<- ON]
 have:n=k+(n - k):=by lia
 grind
theorem jx {lo n:Nat} (h:lo+n<=a.size) (s:Srt kk (seg a lo n)){j m:Nat} (hj:lo<=j) (hjm:j<m) (hm:m<lo+n):kk (a[j]'(by lia))<kk (a[m]'(by lia)):=by
 have:=MB.mp s (j - lo) (m - lo) (by rw[df h];lia) (by rw[df h];lia) (by lia)
 rw[jA h (by lia),jA h (by lia)] at this
 grind
theorem dy {lo n:Nat} (h:lo+n<=a.size) (hx:x∈seg a lo n):∃j,∃hj:j<a.size,lo<=j/\j<lo+n/\a[j]=x:=by
 obtain⟨i,hi,rfl⟩:=Pt.mp hx
 have hi':i<n:=by rw[df h] at hi;exact hi
 exact⟨lo+i,by lia,by lia,by lia,(jA h hi').symm⟩
theorem xA {lo n:Nat} (h:x∈seg a lo n):x∈a:=by
 have:=List.mem_of_mem_drop (Pu h)
 simp_all
theorem fv (a) (lo n):a.toList=a.toList.take lo++seg a lo n++a.toList.drop (lo+n):=by
 unfold seg
 rw[<- ON,Mr,NH,NH]
theorem xU (a) (lo hi):(a.extract lo hi).toList=seg a lo (hi - lo):=by
 unfold seg;simp
theorem rQ:∀(l o X Z:List Mx) (a:Array Mx) (k pos:Nat),a.toList=X++o++Z->o.length=l.length->X.length=pos+k->((l.zipIdx k).foldl (fun a pj=>a.setIfInBounds (pos+pj.2) pj.1) a).toList=X++l++Z
 | [],o,X,Z,a,k,pos,e,hl,_=>by
  simp_all
 | x::l,[],X,Z,a,k,pos,e,hl,_=>by grind
 | x::l,y::o,X,Z,a,k,pos,e,hl,hX=>by
  rw[Qc,Oz]
  have e1:(a.setIfInBounds (pos+k) x).toList=(X++[x])++o++Z:=by
   simp_all
  have:=rQ l o (X++[x]) Z (a.setIfInBounds (pos+k) x) (k+1) pos e1 (by simp_all) (by grind)
  simp_all
end
section
variable {prog:Mc}{w:MU}{A:MY}{E:LM->LP->Prop}{s:LP}{κ:Ox}{P:Mx->Prop}{kk:Mx->Int}
theorem Gv.JC {st st0:L7} (h:∀st',st'=st0->Q ⟨⟩ st'):Gv prog w A E s (MonadState.set st0:StateT L7 Sem PUnit) st Q:=Gv.set (h _ rfl)
theorem Gv.mU {st:L7} (h:∀st',st'=f st->Q ⟨⟩ st'):Gv prog w A E s (_root_.modify f:StateT L7 Sem PUnit) st Q:=Gv.modify (h _ rfl)
theorem pJ {a:Array Mx} (nd:(a.toList.map kk).Nodup){i j:Nat} (hi:i<a.size) (hj:j<a.size) (n:i≠j):kk a[i]≠kk a[j]:=fun e=>by
 have h:=MB.mp nd
 rcases Nat.lt_or_gt_of_ne n with z | z
 ·have:=h i j (by simpa using hi) (by simpa using hj) z
  simp at this;exact this e
 ·have:=h j i (by simpa using hj) (by simpa using hi) z
  simp at this;exact this e.symm
theorem nv {a a':Array Mx}{sa na nb k q:Nat}{r:List Mx} (hk:k<=na) (hq:q<=nb) (hn:sa+na+nb<=a.size) (hr:r.Perm (seg a (sa+k) (na - k)++seg a (sa+na) q)) (sr:Srt kk r)
  (e:a'.toList=a.toList.take (sa+k)++r++a.toList.drop (sa+na+q))
  (s1:Srt kk (seg a sa na)) (s2:Srt kk (seg a (sa+na) nb)) (o3:∀j,(hj:j<a.size)->sa<=j->j<sa+k->∀m,(hm:m<a.size)->sa+na<=m->m<sa+na+nb->kk a[j]<kk a[m])
  (o4:∀j,(hj:j<a.size)->sa<=j->j<sa+na->∀m,(hm:m<a.size)->sa+na+q<=m->m<sa+na+nb->kk a[j]<kk a[m]) :
  a'.toList=a.toList.take sa++(seg a sa k++r++seg a (sa+na+q) (nb - q))++a.toList.drop (sa+na+nb)/\(seg a sa k++r++seg a (sa+na+q) (nb - q)).Perm (seg a sa (na+nb))/\Srt kk (seg a sa k++r++seg a (sa+na+q) (nb - q)):=by
 have e1:=cK a sa na k hk
 have e2:=cK a (sa+na) nb q hq
 refine⟨?_,?_,?_⟩
 ·rw[e,List.take_add]
  have:a.toList.drop (sa+na+q)=seg a (sa+na+q) (nb - q)++a.toList.drop (sa+na+nb):=by
   have:=(NH (nb - q) (a.toList.drop (sa+na+q))).symm
   rwa [ON,show sa+na+q+(nb - q)=sa+na+nb by lia] at this
  rw[this]
  unfold seg
  simp[Mr]
 ·have e3:seg a sa (na+nb)=seg a sa na++seg a (sa+na) nb:=by
   have:=cK a sa (na+nb) na (by lia)
   rwa [show na+nb - na=nb by lia] at this
  rw[e3,e1,e2]
  have:=(hr.append_left (seg a sa k)).append_right (seg a (sa+na+q) (nb - q))
  simpa [Mr] using this
 ·have S1:=s1
  rw[e1] at S1
  have S2:=s2
  rw[e2] at S2
  unfold Srt at S1 S2
  rw[L8] at S1 S2
  refine L8.mpr ⟨L8.mpr ⟨S1.1,sr,fun x hx y hy=>?_⟩,S2.2.1,fun x hx y hy=>?_⟩
  ·rcases Ml.mp (hr.mem_iff.mp hy) with hy | hy
   ·exact S1.2.2 x hx y hy
   ·obtain⟨j,hj,j1,j2,rfl⟩:=dy (by lia) hx
    obtain⟨m,hm,m1,m2,rfl⟩:=dy (by lia) hy
    exact o3 j hj j1 j2 m hm m1 (by lia)
  ·obtain⟨m,hm,m1,m2,rfl⟩:=dy (by lia) hy
   rcases Ml.mp hx with hx | hx
   ·obtain⟨j,hj,j1,j2,rfl⟩:=dy (by lia) hx
    exact o4 j hj j1 (by lia) m hm (by lia) (by lia)
   ·rcases Ml.mp (hr.mem_iff.mp hx) with hx | hx
    ·obtain⟨j,hj,j1,j2,rfl⟩:=dy (by lia) hx
     exact o4 j hj (by lia) (by lia) m hm (by lia) (by lia)
    ·exact S2.2.2 _ hx _ hy
theorem vz {i sa na pw nb pw2:Nat}{st:L7}{Q:Bool->L7->Prop} (c:Cmp prog w A s κ P kk) (hk:kindOf st=κ) (hf:failedOf st=none) (hp:∀x∈arrOf st,P x) (nd:((arrOf st).toList.map kk).Nodup)
  (p1:(pendingOf st)[i]?=some (sa,na,pw)) (p2:(pendingOf st)[i+1]?=some (sa+na,nb,pw2)) (h1:1<=na) (h2:1<=nb) (hn:sa+na+nb<=(arrOf st).size) (s1:Srt kk (seg (arrOf st) sa na)) (s2:Srt kk (seg (arrOf st) (sa+na) nb))
  (h:∀(st':L7) (M:List Mx),kindOf st'=κ->failedOf st'=none->pendingOf st'=((pendingOf st).setIfInBounds i (sa,na+nb,pw)).eraseIdxIfInBounds (i+1)->(arrOf st').toList=(arrOf st).toList.take sa++M++(arrOf st).toList.drop (sa+na+nb)->M.Perm (seg (arrOf st) sa (na+nb))->Srt kk M->Q true st'):Gv prog w A E s (mergeAt' i) st Q:=by
 obtain⟨kd,a,pd,mg,fl⟩:=st
 with_unfolding_all refine Gv.bind (Gv.get ?_)
 rw[show pd[i]?=_ from p1,show pd[i+1]?=_ from p2]
 dsimp only
 replace nd:(a.toList.map kk).Nodup:=nd
 replace hn:sa+na+nb<=a.size:=hn
 refine Gv.bind (Gv.JC fun st1 f1=>?_)
 have k1:kindOf st1=κ:=by rw[f1];exact hk
 have fl1:failedOf st1=none:=by rw[f1];exact hf
 have a1:arrOf st1=a:=by rw[f1]
 have pd1:pendingOf st1=(pd.setIfInBounds i (sa,na+nb,pw)).eraseIdxIfInBounds (i+1):=by rw[f1]
 have hsb:sa+na<a.size:=by lia
 have hs1:sa+na<=a.size:=by lia
 have o1:∀{j m:Nat} (hm:m<a.size),sa<=j->(hjm:j<m)->m<sa+na->kk (a[j]'(by lia))<kk a[m]:=fun hm h1 h2 h3=>jx hs1 s1 h1 h2 h3
 have o2:∀{j m:Nat} (hm:m<a.size),sa+na<=j->(hjm:j<m)->m<sa+na+nb->kk (a[j]'(by lia))<kk a[m]:=fun hm h1 h2 h3=>jx hn s2 h1 h2 h3
 refine Gv.bind (Gv.elem (get_some hsb) ?_)
 refine Gv.bind (rh c hp (hp _ (Mp hsb)) k1 hs1 (by lia) (fun j m hm h1 h2 h3=>o1 hm h1 h2 h3) (fun j hj h1 h2=>pJ nd hj hsb (by lia)) (fun k hk1 e1 e2=>?_))
 have O3:∀j,(hj:j<a.size)->sa<=j->j<sa+k->∀m,(hm:m<a.size)->sa+na<=m->m<sa+na+nb->kk a[j]<kk a[m]:=fun j hj h1 h2 m hm h3 h4=>by
  have x1:=e1 j hj h1 h2
  rcases Nv h3 with z | z
  ·have:=o2 hm (LH _) z h4;lia
  ·subst z;exact x1
 dsimp only
 refine bp (fun e=>?_) (fun ne1=>?_)
 ·have e':na - k=0:=by simpa using e
  have ek:k=na:=by lia
  subst ek
  have pb:=nv (a:=a) (a':=arrOf st1) (sa:=sa) (na:=k) (nb:=nb) (k:=k) (q:=nb) (r:=seg a (sa+k) nb) (LH _) (LH _) hn (by unfold seg;simp) s2 (by rw[a1];exact fv a (sa+k) nb) s1 s2 O3 (fun j hj h1 h2 m hm h3 h4=>by lia)
  exact Gv.pure (h st1 _ k1 fl1 pd1 pb.1 pb.2.1 pb.2.2)
 have ne1':¬ na - k=0:=by simpa using ne1
 have hx:sa+na - 1<a.size:=by lia
 refine Gv.bind (Gv.elem (get_eq hx (by lia)) ?_)
 refine Gv.bind (qd c hp (hp _ (Mp hx)) k1 hn (by lia) (fun j m hm h1 h2 h3=>o2 hm h1 h2 h3) (fun q hq1 f1 f2=>?_))
 have O4:∀j,(hj:j<a.size)->sa<=j->j<sa+na->∀m,(hm:m<a.size)->sa+na+q<=m->m<sa+na+nb->kk a[j]<kk a[m]:=fun j hj h1 h2 m hm h3 h4=>by
  have x1:=f2 m hm h3 h4
  have x2:=pJ nd hm hx (by lia)
  rcases Nv (show j<=sa+na - 1 by lia) with z | z
  ·have:=o1 hx h1 z (by lia);lia
  ·subst z;lia
 dsimp only
 refine bp (fun e=>?_) (fun ne2=>?_)
 ·have e':q=0:=by simpa using e
  subst e'
  have pb:=nv (a:=a) (a':=arrOf st1) (sa:=sa) (na:=na) (nb:=nb) (k:=k) (q:=0) (r:=seg a (sa+k) (na - k)) hk1 (Nj _) hn (by unfold seg;simp) (by have:=s1;rw[cK a sa na k hk1] at this;exact(L8.mp this).2.1) (by rw[a1,Nat.add_zero];have:=fv a (sa+k) (na - k);rwa [show sa+k+(na - k)=sa+na by lia] at this) s1 s2 O3 O4
  exact Gv.pure (h st1 _ k1 fl1 pd1 pb.1 pb.2.1 pb.2.2)
 have ne2':¬ q=0:=by simpa using ne2
 -- the merge
 have xl:(a.extract (sa+k) (sa+na)).toList=seg a (sa+k) (na - k):=by rw[xU,show sa+na - (sa+k)=na - k by lia]
 have yl:(a.extract (sa+na) (sa+na+q)).toList=seg a (sa+na) q:=by rw[xU,show sa+na+q - (sa+na)=q by lia]
 have xs:(a.extract (sa+k) (sa+na)).size=na - k:=by simp;lia
 have ys:(a.extract (sa+na) (sa+na+q)).size=q:=by simp;lia
 have xg:∀j,(hj:j<na - k)->(a.extract (sa+k) (sa+na))[j]'(by rw[xs];exact hj)=a[sa+k+j]'(by lia):=fun j hj=>by rw[OC]
 have yg:∀j,(hj:j<q)->(a.extract (sa+na) (sa+na+q))[j]'(by rw[ys];exact hj)=a[sa+na+j]'(by lia):=fun j hj=>by rw[OC]
 have tw:Two P kk (a.extract (sa+k) (sa+na)) (a.extract (sa+na) (sa+na+q)):=by
  refine⟨fun x hx=>hp x ?_,fun x hx=>hp x ?_,?_,?_,?_⟩
  ·have hx':x∈(a.extract (sa+k) (sa+na)).toList:=Nx.mpr hx
   rw[xl] at hx';exact xA hx'
  ·have hx':x∈(a.extract (sa+na) (sa+na+q)).toList:=Nx.mpr hx
   rw[yl] at hx';exact xA hx'
  ·rw[xl];have:=s1;rw[cK a sa na k hk1] at this;exact(L8.mp this).2.1
  ·rw[yl];have:=s2;rw[cK a (sa+na) nb q hq1] at this;exact(L8.mp this).1
  ·intro x hx y hy
   rw[xl] at hx
   rw[yl] at hy
   obtain⟨j,hj,j1,j2,rfl⟩:=dy (by lia) hx
   obtain⟨m,hm,m1,m2,rfl⟩:=dy (by lia) hy
   exact pJ nd hj hm (by lia)
 have fin:∀(r:Array Mx) (st2:L7),gw kk (a.extract (sa+k) (sa+na)) (a.extract (sa+na) (sa+na+q)) r->dY st1 st2->∀st3:L7,kindOf st3=kindOf st2->failedOf st3=failedOf st2->pendingOf st3=pendingOf st2->arrOf st3=r.toList.zipIdx.foldl (fun a pj=>a.setIfInBounds (sa+k+pj.2) pj.1) (arrOf st2)->Q true st3:=by
  intro r st2 fr sm st3 g1 g2 g3 g4
  obtain⟨pr,sr⟩:=fr
  rw[xl,yl] at pr
  have hrl:r.toList.length=na - k+q:=by rw[pr.length_eq,Mn,df (by lia),df (by lia)]
  have ea:(arrOf st3).toList=a.toList.take (sa+k)++r.toList++a.toList.drop (sa+na+q):=by
   rw[g4,sm.arr,a1]
   have e0:=fv a (sa+k) (na - k+q)
   rw[show sa+k+(na - k+q)=sa+na+q by lia] at e0
   exact rQ r.toList (seg a (sa+k) (na - k+q)) (a.toList.take (sa+k)) (a.toList.drop (sa+na+q)) a 0 (sa+k) e0 (by rw[df (by lia),hrl]) (by rw[Nf,ML];lia)
  have pb:=nv hk1 hq1 hn pr sr ea s1 s2 O3 O4
  exact h st3 _ (g1.trans (sm.kind.trans k1)) (g2.trans (sm.fail.trans fl1)) (g3.trans (sm.pend.trans pd1)) pb.1 pb.2.1 pb.2.2
 have lo0:kk ((a.extract (sa+na) (sa+na+q))[0]'(by lia))<kk ((a.extract (sa+k) (sa+na))[0]'(by lia)):=by
  rw[xg 0 (by lia),yg 0 (by lia)]
  exact e2 (sa+k) (by lia) (by lia) (by lia)
 have allY:∀y∈(a.extract (sa+na) (sa+na+q)).toList,kk y<kk ((a.extract (sa+k) (sa+na))[(a.extract (sa+k) (sa+na)).size - 1]'(by lia)):=by
  intro y hy
  rw[yl] at hy
  obtain⟨m,hm,m1,m2,rfl⟩:=dy (by lia) hy
  have:(a.extract (sa+k) (sa+na))[(a.extract (sa+k) (sa+na)).size - 1]'(by lia)=a[sa+na - 1]:=by
   rw[xg _ (by lia)]
   congr 1
   lia
  rw[this]
  exact f1 m hm m1 m2
 refine bp (fun _=>?_) (fun _=>?_)
 ·refine Gv.bind (uR c tw k1 (by lia) (by lia) lo0 allY (fun r st2 fr sm=>?_))
  refine Gv.bind (Gv.mU fun st3 g=>?_)
  refine Gv.bind (Gv.get ?_)
  have g2:failedOf st3=failedOf st2:=by rw[g]
  have g3:(failedOf st3).isNone=true:=by rw[g2.trans (sm.fail.trans fl1)];rfl
  refine Gv.pure ?_
  show Q (failedOf st3).isNone st3
  rw[g3]
  exact fin r st2 fr sm st3 (by rw[g]) g2 (by rw[g]) (by rw[g])
 ·refine Gv.bind (uM c tw k1 (by lia) (by lia) (fun y hy=>?_) (allY _ (Nx.mpr (Mp _))) (fun r st2 fr sm=>?_))
  ·rw[xl] at hy
   obtain⟨m,hm,m1,m2,rfl⟩:=dy (by lia) hy
   rw[yg 0 (by lia)]
   exact e2 m hm (by lia) (by lia)
  refine Gv.bind (Gv.mU fun st3 g=>?_)
  refine Gv.bind (Gv.get ?_)
  have g2:failedOf st3=failedOf st2:=by rw[g]
  have g3:(failedOf st3).isNone=true:=by rw[g2.trans (sm.fail.trans fl1)];rfl
  refine Gv.pure ?_
  show Q (failedOf st3).isNone st3
  rw[g3]
  exact fin r st2 fr sm st3 (by rw[g]) g2 (by rw[g]) (by rw[g])
end
section
variable {kk:Mx->Int}{a:Array Mx}
theorem iD {lo n i:Nat}:(seg a lo n)[i]?=if i<n then a[lo+i]? else none:=by
 unfold seg
 rw[Ow,N2]
 split
 ·rw[Md]
 ·rfl
theorem tH {i j:Nat} (hij:i<=j) (hj:j<=a.size):(mirror a i j ((j - i) / 2)).toList=a.toList.take i++(seg a i (j - i)).reverse++a.toList.drop j:=by
 have hsl:(seg a i (j - i)).length=j - i:=df (by lia)
 apply OE
 intro k
 rw[Md,getElem?_mirror_all hj]
 have l1:(a.toList.take i).length=i:=by rw[Nf,ML];lia
 have l2:(a.toList.take i++(seg a i (j - i)).reverse).length=j:=by rw[Mn,OR];lia
 by_cases h1:k<i
 ·rw[if_neg (by lia),LV (by rw[l2];lia),LV (by rw[l1];exact h1),Ow,if_pos h1,Md]
 ·by_cases h2:k<j
  ·rw[if_pos ⟨by lia,h2⟩,LV (by rw[l2];lia),LY (by rw[l1];lia),List.getElem?_reverse (by rw[hsl];lia),iD,if_pos (by lia)]
   congr 1
   lia
  ·rw[if_neg (by lia),LY (by rw[l2];lia),N2,Md]
   congr 1
   lia
theorem tL {src dst:Nat} (hd:dst<=src) (hs:src<a.size):(bubble a src (src - dst)).toList=a.toList.take dst++(a[src]::seg a dst (src - dst))++a.toList.drop (src+1):=by
 have hsl:(seg a dst (src - dst)).length=src - dst:=df (by lia)
 apply OE
 intro k
 rw[Md,getElem?_bubble hs _ (by lia),show src - (src - dst)=dst by lia]
 have l1:(a.toList.take dst).length=dst:=by rw[Nf,ML];lia
 have l2:(a.toList.take dst++(a[src]::seg a dst (src - dst))).length=src+1:=by rw[Mn,Mi];lia
 by_cases h0:k<dst
 ·rw[if_neg (by lia),if_neg (by lia),LV (by rw[l2];lia),LV (by rw[l1];exact h0),Ow,if_pos h0,Md]
 ·by_cases h1:k=dst
  ·subst h1
   rw[LV (by rw[l2];lia),LY (by rw[l1];lia),l1]
   simp[hs]
  ·by_cases h2:k<=src
   ·rw[if_neg h1,if_pos ⟨by lia,h2⟩,LV (by rw[l2];lia),LY (by rw[l1];lia),l1]
    obtain⟨e,he⟩:∃e,k - dst=e+1:=⟨k - dst - 1,by lia⟩
    rw[he,List.getElem?_cons_succ,iD,if_pos (by lia)]
    congr 1
    lia
   ·rw[if_neg h1,if_neg (by lia),LY (by rw[l2];lia),N2,Md]
    congr 1
    lia
theorem iG {lo n:Nat} (h:lo+n<a.size):seg a lo (n+1)=seg a lo n++[a[lo+n]]:=by
 rw[cK a lo (n+1) n (by lia)]
 congr 1
 apply OE
 intro k
 rw[iD]
 cases k with
 | zero=>simp[h]
 | succ k=>simp
theorem wO:Srt kk [x]:=M_ _ _
theorem BM {lo:Nat} (h:lo<a.size):Srt kk (seg a lo 1):=by
 have:=iG (show lo+0<a.size by lia)
 rw[this]
 have e:seg a lo 0=[]:=by rfl
 rw[e];exact wO
theorem CA {lo n:Nat} (s:Srt kk (seg a lo n)) (h1:1<=n) (h:lo+n<a.size) (lt:kk a[lo+n - 1]<kk a[lo+n]):Srt kk (seg a lo (n+1)):=by
 rw[iG h]
 refine L8.mpr ⟨s,wO,fun x hx y hy=>?_⟩
 rw[LX] at hy;subst hy
 obtain⟨j,hj,j1,j2,rfl⟩:=dy (by lia) hx
 rcases Nv (show j<=lo+n - 1 by lia) with z | z
 ·have:=jx (by lia) s j1 z (by lia);lia
 simp_all
noncomputable def Dsc (kk:Mx->Int) (l:List Mx):Prop:=l.Pairwise fun x y=>kk y<kk x
theorem we {lo n:Nat} (s:Dsc kk (seg a lo n)) (h1:1<=n) (h) (lt:kk a[lo+n]<kk a[lo+n - 1]):Dsc kk (seg a lo (n+1)):=by
 rw[iG h]
 refine L8.mpr ⟨s,M_ _ _,fun x hx y hy=>?_⟩
 rw[LX] at hy;subst hy
 obtain⟨j,hj,j1,j2,rfl⟩:=dy (by lia) hx
 rcases Nv (show j<=lo+n - 1 by lia) with z | z
 ·have hl:(seg a lo n).length=n:=df (by lia)
  have:=MB.mp s (j - lo) (n - 1) (by lia) (by lia) (by lia)
  rw[jA (by lia) (by lia),jA (by lia) (by lia)] at this
  grind
 simp_all
structure Prt (a a':Array Mx) (lo n) (S):Prop where
 eq:a'.toList=a.toList.take lo++S++a.toList.drop (lo+n)
 perm:S.Perm (seg a lo n)
theorem Prt.all {lo n:Nat} (p:Prt a a' lo n S):a'.toList.Perm a.toList:=by
 rw[p.eq]
 conv=>rhs;rw[fv a lo n]
 exact(p.perm.append_left _).append_right _
theorem Prt.size {lo n:Nat} (p:Prt a a' lo n S):a'.size=a.size:=by
 have:=p.all.length_eq;omega
theorem Prt.P {lo n:Nat}{P:Mx->Prop} (p:Prt a a' lo n S) (h:∀x∈a,P x):∀x∈a',P x:=fun x hx=>h x (by
 have:=p.all.mem_iff.mp (Nx.mpr hx);simp_all)
theorem Prt.nd {lo n:Nat} (p:Prt a a' lo n S) (h:(a.toList.map kk).Nodup):(a'.toList.map kk).Nodup:=((p.all.map kk).nodup_iff).mpr h
theorem Prt.seg {lo n:Nat} (p:Prt a a' lo n S) (h:lo+n<=a.size):seg a' lo n=S:=by
 have hS:S.length=n:=by rw[p.perm.length_eq,df h]
 unfold L2.SM.seg
 rw[p.eq,Mr,List.drop_append_of_le_length (by grind),O6 (by grind),M1,Oo (by lia),NX (by lia)]
theorem Prt.before {lo n:Nat} (p:Prt a a' lo n S) (h:lo+n<=a.size) (hk:i+k<=lo):L2.SM.seg a' i k=L2.SM.seg a i k:=by
 apply OE
 intro q
 rw[iD,iD]
 split
 ·rename_i hq
  rw[<- Md,<- Md,p.eq,Mr,LV (by grind),Ow,if_pos (by lia)]
 ·rfl
theorem Prt.refl {lo n:Nat}:Prt a a lo n (L2.SM.seg a lo n):=⟨fv a lo n,.refl _⟩
end
section
variable {prog:Mc}{w:MU}{A:MY}{E:LM->LP->Prop}{s:LP}{κ:Ox}{P:Mx->Prop}{kk:Mx->Int}
theorem sV {β:Type}{f:Nat->β->StateT L7 Sem (ForInStep β)} (I:Nat->β->L7->Prop) (D:β->L7->Prop) (hi:Nat)
  (step:∀x b st,x<hi->I x b st->Gv prog w A E s (f x b) st fun r st'=>match r with | .done b'=>D b' st' | .yield b'=>I (x+1) b' st')
  (fin:∀b st,I hi b st->D b st):∀(n lo:Nat) (b:β) (st:L7),lo+n=hi->I lo b st->Gv prog w A E s (forIn (P6 lo n) b f) st D
 | 0,lo,b,st,e,h=>kasC_nil ⟨rfl,fin b st ((show lo=hi by lia) ▸ h)⟩
 | n+1,lo,b,st,e,h=>by
  have ih:=sV I D hi step fin n (lo+1)
  refine kasC_cons (Nw (step lo b st (by lia) h) (fun r s' h'=>?_) fun _ _ e=>e)
  obtain⟨e',h'⟩:=h'
  subst e'
  revert h'
  cases r.1 with
  | done b'=>simp
  | yield b'=>intro h';exact ih b' r.2 (by lia) h'
theorem Gv.qf {st:L7} (I:Nat->β->L7->Prop) (hab:a<=b) (h0:I a c st)
  (step:∀x z st,x<b->I x z st->Gv prog w A E s (f x z) st fun r st'=>match r with | .done b'=>Q b' st' | .yield b'=>I (x+1) b' st')
  (fin:∀z st,I b z st->Q z st):Gv prog w A E s (forIn [a:b] c f) st Q:=
 kasC_range (sV I Q b step fin (b - a) a c st (by lia) h0)
structure Ok (κ) (P:Mx->Prop) (kk:Mx->Int) (st:L7):Prop where
 kind:kindOf st=κ
 fail:failedOf st=none
 all:∀x∈arrOf st,P x
 nd:((arrOf st).toList.map kk).Nodup
theorem Gv.ltAt {st:L7} (c:Cmp prog w A s κ P kk) (o:Ok κ P kk st) (hi) (hj:j<(arrOf st).size) (h:Q (some (decide (kk (arrOf st)[i]<kk (arrOf st)[j]))) st):Gv prog w A E s (ltAt' i j) st Q:=by
 refine Gv.bind (Gv.get ?_)
 refine Gv.bind (Gv.elem (get_some hi) ?_)
 refine Gv.bind (Gv.elem (get_some hj) ?_)
 exact Gv.ltC c (o.all _ (Mp hi)) (o.all _ (Mp hj)) o.kind h
structure Arr (st st':L7) (a'):Prop where
 kind:kindOf st'=kindOf st
 fail:failedOf st'=failedOf st
 pend:pendingOf st'=pendingOf st
 arr:arrOf st'=a'
theorem Arr.refl {st:L7}:Arr st st (arrOf st):=⟨rfl,rfl,rfl,rfl⟩
theorem Arr.ok {st st':L7}{lo n:Nat} (o:Ok κ P kk st) (r:Arr st st' a') (p:Prt (arrOf st) a' lo n S):Ok κ P kk st':=⟨r.kind.trans o.kind,r.fail.trans o.fail,by rw[r.arr];exact p.P o.all,by rw[r.arr];exact p.nd o.nd⟩
theorem r9 {lo nrem n0:Nat}{st:L7}{f:Nat->Option (Option Nat) × Nat->StateT L7 Sem (ForInStep (Option (Option Nat) × Nat))}{R:Option (Option Nat) × Nat->L7->Prop} (hn:lo+nrem<=(arrOf st).size) (nd:((arrOf st).toList.map kk).Nodup) (h1:1<=n0) (h2:n0<=nrem) (s0:Srt kk (seg (arrOf st) lo n0))
  (hf:∀x n T,1<=n->(hl:lo+n<(arrOf st).size)->T (if kk (arrOf st)[lo+n]<kk ((arrOf st)[lo+n - 1]'(by lia)) then .done (none,n) else .yield (none,n+1)) st->Gv prog w A E s (f x (none,n)) st T)
  (hR:∀n,n0<=n->n<=nrem->Srt kk (seg (arrOf st) lo n)->(n<nrem->∀hl:lo+n<(arrOf st).size,kk (arrOf st)[lo+n]<kk ((arrOf st)[lo+n - 1]'(by lia)))->R (none,n) st):Gv prog w A E s (forIn [n0:nrem] (none,n0) f) st R:=by
 refine Gv.qf (fun x z st'=>st'=st/\z=(none,x)/\n0<=x/\Srt kk (seg (arrOf st) lo x)) h2 ⟨rfl,rfl,LH _,s0⟩ (fun x z st' hx hz=>?_) (fun z st' hz=>?_)
 ·obtain⟨rfl,rfl,g1,g2⟩:=hz
  have hl:lo+x<(arrOf st').size:=by lia
  refine hf x x _ (by lia) hl ?_
  by_cases lt:kk (arrOf st')[lo+x]<kk ((arrOf st')[lo+x - 1]'(by lia))
  ·rw[if_pos lt]
   exact hR x g1 (by lia) g2 fun _ _=>lt
  ·rw[if_neg lt]
   have ne:=pJ nd hl (show lo+x - 1<(arrOf st').size by lia) (by lia)
   exact⟨rfl,rfl,by lia,CA g2 (by lia) hl (by lia)⟩
 ·obtain⟨rfl,rfl,g1,g2⟩:=hz
  exact hR nrem g1 (LH _) g2 fun h=>absurd h (MN _)
theorem tj {lo nrem:Nat}{st:L7} (c:Cmp prog w A s κ P kk) (o:Ok κ P kk st) (hn:lo+nrem<=(arrOf st).size) (h1:1<=nrem)
  (h:∀n a' st' S,1<=n->n<=nrem->Arr st st' a'->Prt (arrOf st) a' lo n S->Srt kk S->Q (some n) st'):Gv prog w A E s (countRun' lo nrem) st Q:=by
 have F:∀(st:L7),Ok κ P kk st->lo+nrem<=(arrOf st).size->∀n,1<=n->lo+n<(arrOf st).size->∀{T:Option Bool->L7->Prop},(∀(hl:lo+n<(arrOf st).size),T (some (decide (kk (arrOf st)[lo+n]<kk ((arrOf st)[lo+n - 1]'(by lia))))) st)->Gv prog w A E s (ltAt' (lo+n) (lo+n - 1)) st T:=fun st o hn n h1 hl T hT=>Gv.ltAt c o hl (by lia) (hT hl)
 with_unfolding_all refine Gv.bind ?_
 refine r9 hn o.nd (LH _) h1 (BM (by lia)) (fun x n T g1 hl hT=>?_) (fun n g1 g2 g3 g4=>?_)
 ·refine Gv.bind (F st o hn n g1 hl fun hl=>?_)
  dsimp only
  by_cases lt:kk (arrOf st)[lo+n]<kk ((arrOf st)[lo+n - 1]'(by lia))
  ·rw[decide_eq_true lt];rw[if_pos lt] at hT;exact Gv.pure hT
  ·rw[decide_eq_false lt];rw[if_neg lt] at hT;exact Gv.pure hT
 refine bp (fun e=>?_) (fun e=>?_)
 ·exact Gv.pure (h n _ st _ g1 g2 Arr.refl Prt.refl g3)
 have e':¬ n=nrem:=by simp_all
 refine bp (fun e2=>?_) (fun e2=>?_)
 ·-- it rose
  refine Gv.bind (Gv.ltAt c o (show lo<(arrOf st).size by lia) (show lo+n - 1<(arrOf st).size by lia) ?_)
  have lt:kk (arrOf st)[lo]<kk (arrOf st)[lo+n - 1]:=jx (by lia) g3 (LH _) (by lia) (by lia)
  rw[decide_eq_true lt]
  dsimp only
  exact Gv.pure (h n _ st _ g1 g2 Arr.refl Prt.refl g3)
 have n1:n=1:=by lia
 subst n1
 refine Gv.bind (Gv.rule ?_)
 have d2:Dsc kk (seg (arrOf st) lo 2):=by
  have l:=g4 (by lia) (by lia)
  refine we (n:=1) ?_ (LH _) (by lia) l
  rw[iG (n:=0) (by lia)]
  have e0:seg (arrOf st) lo 0=[]:=by rfl
  rw[e0];exact M_ _ _
 refine Gv.bind (Gv.mono (Q:=fun z st'=>st'=st/\∃m,z=(none,m,0)/\2<=m/\m<=nrem/\Dsc kk (seg (arrOf st) lo m)) (Gv.qf (fun x z st'=>st'=st/\z=(none,x,0)/\2<=x/\Dsc kk (seg (arrOf st) lo x)) (by lia) ⟨rfl,rfl,by lia,d2⟩ (fun x z st' hx hz=>?_) (fun z st' hz=>?_)) (fun z st' hz=>?_))
 ·obtain⟨rfl,rfl,q1,q2⟩:=hz
  have hl:lo+x<(arrOf st').size:=by lia
  refine Gv.bind (F st' o hn x (by lia) hl fun hl=>?_)
  dsimp only
  by_cases lt:kk (arrOf st')[lo+x]<kk ((arrOf st')[lo+x - 1]'(by lia))
  ·rw[decide_eq_true lt,if_pos rfl,if_neg (by lia)]
   exact Gv.pure ⟨rfl,rfl,by lia,we q2 (by lia) hl lt⟩
  ·rw[decide_eq_false lt,if_neg (by decide)]
   have ne:=pJ o.nd hl (show lo+x - 1<(arrOf st').size by lia) (by lia)
   have gt:kk ((arrOf st')[lo+x - 1]'(by lia))<kk (arrOf st')[lo+x]:=by lia
   refine Gv.bind (Gv.ltAt c o (show lo+x - 1<(arrOf st').size by lia) hl ?_)
   rw[decide_eq_true gt]
   dsimp only
   rw[if_pos rfl]
   exact Gv.pure ⟨rfl,x,rfl,q1,by lia,q2⟩
 ·simp_all
 ·obtain⟨rfl,m,rfl,q1,q2,q3⟩:=hz
  dsimp only
  rw[if_neg (by lia)]
  have pr:Prt (arrOf st') (mirror (arrOf st') lo (lo+m) ((lo+m - lo) / 2)) lo m (seg (arrOf st') lo m).reverse:=by
   refine⟨?_,List.reverse_perm _⟩
   have:=tH (a:=arrOf st') (show lo<=lo+m by lia) (by lia)
   simp_all
  have sr:Srt kk (seg (arrOf st') lo m).reverse:=by unfold Srt;rw[List.pairwise_reverse];exact q3
  with_unfolding_all refine Gv.bind (Gv.mU fun st2 g=>?_)
  have r2:Arr st' st2 (mirror (arrOf st') lo (lo+m) ((lo+m - lo) / 2)):=⟨by rw[g],by rw[g],by rw[g],by rw[g];rfl⟩
  clear g
  have o2:=r2.ok o pr
  have hs2:(arrOf st2).size=(arrOf st').size:=by rw[r2.arr];exact pr.size
  have sg:seg (arrOf st2) lo m=(seg (arrOf st') lo m).reverse:=by rw[r2.arr];exact pr.seg (by lia)
  refine Gv.bind ?_
  refine r9 (st:=st2) (lo:=lo) (n0:=m) (by lia) o2.nd (by lia) q2 (by simp_all) (fun x n T z1 hl hT=>?_) (fun n z1 z2 z3 z4=>?_)
  ·refine Gv.bind (F st2 o2 (by lia) n z1 hl fun hl=>?_)
   dsimp only
   by_cases lt:kk (arrOf st2)[lo+n]<kk ((arrOf st2)[lo+n - 1]'(by lia))
   ·rw[decide_eq_true lt,if_pos rfl];rw[if_pos lt] at hT;exact Gv.pure hT
   ·rw[decide_eq_false lt,if_neg (by decide)];rw[if_neg lt] at hT;exact Gv.pure hT
  ·dsimp only
   refine Gv.pure (h n _ st2 (seg (arrOf st2) lo n) (by lia) z2 r2 ?_ z3)
   rw[r2.arr]
   -- the longer part
   refine⟨?_,?_⟩
   ·have e0:=fv (mirror (arrOf st') lo (lo+m) ((lo+m - lo) / 2)) lo n
    rw[e0]
    congr 1
    ·congr 1
     rw[pr.eq,Mr,Oo (by grind),List.take_take,Nat.min_self]
    ·rw[pr.eq]
     have hl:(Rt lo (arrOf st').toList++(seg (arrOf st') lo m).reverse).length=lo+m:=by rw[Mn,Nf,ML,OR,df (by lia)];lia
     rw[List.drop_append,O6 (by lia),M1,hl,ON]
     simp_all
   ·have sp1:=cK (mirror (arrOf st') lo (lo+m) ((lo+m - lo) / 2)) lo n m z1
    have sp2:=cK (arrOf st') lo n m z1
    have sg':seg (mirror (arrOf st') lo (lo+m) ((lo+m - lo) / 2)) lo m=(seg (arrOf st') lo m).reverse:=pr.seg (by lia)
    rw[sp1,sp2,sg']
    have tl:seg (mirror (arrOf st') lo (lo+m) ((lo+m - lo) / 2)) (lo+m) (n - m)=seg (arrOf st') (lo+m) (n - m):=by
     unfold seg
     congr 1
     rw[pr.eq]
     have hl:(Rt lo (arrOf st').toList++(L2.SM.seg (arrOf st') lo m).reverse).length=lo+m:=by rw[Mn,Nf,ML,OR,df (by lia)];lia
     grind
    grind
end
section
variable {prog:Mc}{w:MU}{A:MY}{E:LM->LP->Prop}{s:LP}{κ:Ox}{P:Mx->Prop}{kk:Mx->Int}
theorem Prt.head {i m lo:Nat} (p:Prt a a' i m S) (h1:lo<=i) (h3:i<=a.size):a'.toList.take lo=a.toList.take lo:=by
 rw[p.eq,Mr,Oo (by simp_all),List.take_take,PQ h1]
theorem Prt.tail (p:Prt a a' i m S) (h2:i+m<=hi) (h3:i+m<=a.size):a'.toList.drop hi=a.toList.drop hi:=by
 have hS:S.length=m:=by rw[p.perm.length_eq,df h3]
 have hl:(Rt i a.toList++S).length=i+m:=by grind
 rw[p.eq,List.drop_append,O6 (by lia),M1,ON]
 simp_all
theorem Prt.widen {i m lo n:Nat} (p:Prt a a' i m S) (h1:lo<=i) (h2:i+m<=lo+n) (h3:lo+n<=a.size):Prt a a' lo n (L2.SM.seg a' lo n):=by
 have tk:=p.head h1 (by lia)
 have dp:=p.tail h2 (by lia)
 refine⟨by rw[<- tk,<- dp];exact fv a' lo n,?_⟩
 have e:=p.all
 rw[fv a' lo n,fv a lo n,tk,dp,List.perm_append_right_iff,List.perm_append_left_iff] at e
 exact e
theorem Prt.trans {lo n:Nat} (p:Prt a a' lo n S) (q:Prt a' a'' lo n S') (h3:lo+n<=a.size):Prt a a'' lo n S':=by
 refine⟨?_,q.perm.trans (by rw[p.seg h3];exact p.perm)⟩
 rw[q.eq,p.head (LH _) (by lia),p.tail (LH _) h3]
theorem C1 {a a'':Array Mx}{lo k l:Nat} (hk:lo+k<a.size) (hl:l<=k) (sr:Srt kk (seg a lo k)) (lt:∀i,(hi:lo+i<a.size)->i<l->kk a[lo+i]<kk a[lo+k]) (gt:∀i,(hi:lo+i<a.size)->l<=i->i<k->kk a[lo+k]<kk a[lo+i])
  (p:Prt a a'' (lo+l) (k - l+1) (a[lo+k]::seg a (lo+l) (k - l))):Srt kk (seg a'' lo (k+1)):=by
 have e1:=cK a'' lo (k+1) l (by lia)
 have e2:seg a'' lo l=seg a lo l:=p.before (by lia) (by lia)
 have e3:=p.seg (by lia)
 rw[e1,e2,show k+1 - l=k - l+1 by lia,e3]
 have s1:=sr
 rw[cK a lo k l hl] at s1
 have s2:=L8.mp s1
 refine L8.mpr ⟨s2.1,L6.mpr ⟨fun y hy=>?_,s2.2.1⟩,fun x hx y hy=>?_⟩
 ·obtain⟨m,hm,m1,m2,rfl⟩:=dy (by lia) hy
  have:=gt (m - lo) (by lia) (by lia) (by lia)
  simpa [show lo+(m - lo)=m by lia] using this
 ·rcases LR.mp hy with rfl | hy
  ·obtain⟨m,hm,m1,m2,rfl⟩:=dy (by lia) hx
   have:=lt (m - lo) (by lia) (by lia)
   simpa [show lo+(m - lo)=m by lia] using this
  ·exact s2.2.2 x hx y hy
theorem oy {lo n ok:Nat}{st:L7}{Q:Bool->L7->Prop} (c:Cmp prog w A s κ P kk) (o:Ok κ P kk st) (hn:lo+n<=(arrOf st).size) (h1:1<=ok) (h2:ok<=n) (s0:Srt kk (seg (arrOf st) lo ok))
  (h:∀a' st',Arr st st' a'->Prt (arrOf st) a' lo n (seg a' lo n)->Srt kk (seg a' lo n)->Q true st'):Gv prog w A E s (binarySort' lo n ok) st Q:=by
 with_unfolding_all refine Gv.bind ?_
 refine Gv.mono (Q:=fun z st'=>z=(none,())/\∃a',Arr st st' a'/\Prt (arrOf st) a' lo n (seg a' lo n)/\Srt kk (seg a' lo n)) (Gv.qf (fun x z st'=>z=(none,())/\∃a',Arr st st' a'/\Prt (arrOf st) a' lo n (seg a' lo n)/\Srt kk (seg a' lo x)/\1<=x) (by lia) ⟨rfl,_,Arr.refl,Prt.refl,by rw[Nat.max_eq_left h1];exact s0,by lia⟩ (fun k z st1 hk hz=>?_) (fun z st1 hz=>?_)) (fun z st1 hz=>?_)
 ·obtain⟨rfl,a1,r1,p1,g1,g2⟩:=hz
  have o1:=r1.ok o p1
  have hs1:(arrOf st1).size=(arrOf st).size:=by rw[r1.arr];exact p1.size
  have ha1:=r1.arr
  have hk1:lo+k<(arrOf st1).size:=by lia
  refine Gv.bind (Gv.mono (Q:=fun z st2=>st2=st1/\∃l r,z=(none,l,r)/\l<=k/\(∀i,(hi:lo+i<(arrOf st1).size)->i<l->kk (arrOf st1)[lo+i]<kk (arrOf st1)[lo+k])/\(∀i,(hi:lo+i<(arrOf st1).size)->l<=i->i<k->kk (arrOf st1)[lo+k]<kk (arrOf st1)[lo+i])) (Gv.range (fun m z st2=>st2=st1/\∃l r,z=(none,l,r)/\l<=r/\r<=k/\r - l<=m/\(∀i,(hi:lo+i<(arrOf st1).size)->i<l->kk (arrOf st1)[lo+i]<kk (arrOf st1)[lo+k])/\(∀i,(hi:lo+i<(arrOf st1).size)->r<=i->i<k->kk (arrOf st1)[lo+k]<kk (arrOf st1)[lo+i])) ⟨rfl,0,k,rfl,Nj _,LH _,by lia,fun i hi z=>absurd z (PL _),fun i hi z1 z2=>by lia⟩ (fun x m z st2 hz=>?_) (fun z st2 hz=>?_)) (fun z st2 hz=>?_))
  ·obtain⟨rfl,l,r,rfl,b1,b2,b3,b4,b5⟩:=hz
   by_cases hl:l ≥ r
   ·rw[if_pos hl]
    have:l=r:=by lia
    subst this
    exact Gv.pure ⟨rfl,l,l,rfl,b2,b4,b5⟩
   ·rw[if_neg hl]
    have hm:lo+(l+r) / 2<(arrOf st2).size:=by lia
    have sr:∀{i j:Nat},(hij:i<j)->(hj:j<k)->kk ((arrOf st2)[lo+i]'(by lia))<kk ((arrOf st2)[lo+j]'(by lia)):=fun{i j} hij hj=>by
     have g1':Srt kk (seg (arrOf st2) lo k):=by rw[ha1];exact g1
     exact jx (by lia) g1' (by lia) (by lia) (by lia)
    refine Gv.bind (Gv.ltAt c o1 hk1 hm ?_)
    dsimp only
    by_cases lt:kk (arrOf st2)[lo+k]<kk (arrOf st2)[lo+(l+r) / 2]
    ·rw[decide_eq_true lt]
     refine Gv.pure ⟨rfl,l,(l+r) / 2,rfl,by lia,by lia,by lia,b4,fun i hi z1 z2=>?_⟩
     rcases Nv z1 with z | z
     ·have:=sr z z2;lia
     ·subst z;exact lt
    ·rw[decide_eq_false lt]
     have ne:=pJ o1.nd hk1 hm (by lia)
     refine Gv.pure ⟨rfl,(l+r) / 2+1,r,rfl,by lia,by lia,by lia,fun i hi z1=>?_,b5⟩
     rcases Nv (show i<=(l+r) / 2 by lia) with z | z
     ·have:=sr z (show(l+r) / 2<k by lia);lia
     ·subst z;lia
  ·obtain⟨rfl,l,r,rfl,b1,b2,b3,b4,b5⟩:=hz
   have:l=r:=by lia
   subst this
   exact⟨rfl,l,l,rfl,b2,b4,b5⟩
  ·obtain⟨rfl,l,r,rfl,b2,b4,b5⟩:=hz
   have bl:=tL (a:=arrOf st2) (show lo+l<=lo+k by lia) hk1
   rw[show lo+k - (lo+l)=k - l by lia] at bl
   have p2:Prt (arrOf st2) (bubble (arrOf st2) (lo+k) (lo+k - (lo+l))) (lo+l) (k - l+1) ((arrOf st2)[lo+k]::seg (arrOf st2) (lo+l) (k - l)):=by
    refine⟨?_,?_⟩
    ·rw[show lo+k - (lo+l)=k - l by lia,bl,show lo+l+(k - l+1)=lo+k+1 by lia]
    ·rw[iG (by lia)]
     simp only[show lo+l+(k - l)=lo+k by lia]
     exact(List.perm_append_singleton _ _).symm
   with_unfolding_all refine Gv.bind (Gv.mU fun st3 g=>?_)
   have r3:Arr st2 st3 (bubble (arrOf st2) (lo+k) (lo+k - (lo+l))):=⟨by rw[g],by rw[g],by rw[g],by rw[g];rfl⟩
   clear g
   have p3:=p2.widen (lo:=lo) (n:=n) (by lia) (by lia) (by lia)
   rw[ha1] at p3
   have p4:=p1.trans p3 hn
   rw[<- ha1] at p4
   refine Gv.pure ⟨rfl,_,⟨r3.kind.trans r1.kind,r3.fail.trans r1.fail,r3.pend.trans r1.pend,r3.arr⟩,p4,?_,by lia⟩
   exact C1 hk1 b2 (by rw[ha1];exact g1) b4 b5 p2
 ·obtain⟨rfl,a1,r1,p1,g1,g2⟩:=hz
  exact⟨rfl,a1,r1,p1,g1⟩
 ·obtain⟨rfl,a1,r1,p1,g1⟩:=hz
  dsimp only
  exact Gv.pure (h a1 st1 r1 p1 g1)
end
section
variable {prog:Mc}{w:MU}{A:MY}{E:LM->LP->Prop}{s:LP}{κ:Ox}{P:Mx->Prop}{kk:Mx->Int}
theorem Prt.after {i m lo n:Nat} (p:Prt a a' i m S) (h2:i+m<=lo) (h3:i+m<=a.size):L2.SM.seg a' lo n=L2.SM.seg a lo n:=by
 unfold L2.SM.seg
 rw[p.tail h2 h3]
noncomputable def Rn (kk:Mx->Int) (a:Array Mx):Nat->List (Nat × Nat × Nat)->Nat->Prop
 | s,[],lo=>s=lo
 | s,x::r,lo=>x.1=s/\1<=x.2.1/\Srt kk (seg a s x.2.1)/\Rn kk a (s+x.2.1) r lo
theorem Rn.le {a:Array Mx}:∀{L:List (Nat × Nat × Nat)}{s lo:Nat},Rn kk a s L lo->s+L.length<=lo
 | [],s,lo,h=>by have:s=lo:=h;grind
 | x::r,s,lo,h=>by have:=Rn.le h.2.2.2;have:=h.2.1;grind
theorem Rn.app {a:Array Mx}:∀{X Y:List (Nat × Nat × Nat)}{s lo:Nat},Rn kk a s (X++Y) lo↔∃m,Rn kk a s X m/\Rn kk a m Y lo
 | [],Y,s,lo=>⟨fun h=>⟨s,rfl,h⟩,fun⟨m,h1,h2⟩=>by have:s=m:=h1;simp_all⟩
 | x::X,Y,s,lo=>by
  constructor
  ·intro h
   obtain⟨m,h1,h2⟩:=Rn.app.mp h.2.2.2
   exact⟨m,⟨h.1,h.2.1,h.2.2.1,h1⟩,h2⟩
  ·intro⟨m,h1,h2⟩
   exact⟨h1.1,h1.2.1,h1.2.2.1,Rn.app.mpr ⟨m,h1.2.2.2,h2⟩⟩
theorem Rn.BU {a a':Array Mx}:∀{L:List (Nat × Nat × Nat)}{s lo:Nat},Rn kk a s L lo->(∀i k,s<=i->i+k<=lo->seg a' i k=seg a i k)->Rn kk a' s L lo
 | [],s,lo,h,_=>h
 | x::r,s,lo,h,e=>by
  have l:=Rn.le h.2.2.2
  refine⟨h.1,h.2.1,?_,Rn.BU h.2.2.2 fun i k h1 h2=>e i k (by lia) h2⟩
  rw[e s x.2.1 (LH _) (by lia)];exact h.2.2.1
theorem Rn.pow {a:Array Mx}:∀{L L':List (Nat × Nat × Nat)}{s lo:Nat},Rn kk a s L lo->L'.map (fun x=>(x.1,x.2.1))=L.map (fun x=>(x.1,x.2.1))->Rn kk a s L' lo
 | [],[],s,lo,h,_=>h
 | [],_::_,s,lo,h,e=>by simp at e
 | _::_,[],s,lo,h,e=>by simp at e
 | x::r,y::r',s,lo,h,e=>by
  simp only[LW,PN,Prod.mk.injEq] at e
  obtain⟨⟨e1,e2⟩,e3⟩:=e
  refine⟨e1.trans h.1,by rw[e2];exact h.2.1,by rw[e2];exact h.2.2.1,?_⟩
  rw[e2];exact Rn.pow h.2.2.2 e3
structure J (κ) (P) (kk) (st0 st) (lo):Prop where
 ok:Ok κ P kk st
 perm:(arrOf st).toList.Perm (arrOf st0).toList
 runs:Rn kk (arrOf st) 0 (pendingOf st).toList lo
 le:lo<=(arrOf st).size
theorem J.size {st0 st:L7}{lo:Nat} (j:J κ P kk st0 st lo):(arrOf st).size=(arrOf st0).size:=by have:=j.perm.length_eq;omega
theorem iP {i lo:Nat}{st0 st:L7}{Q:Bool->L7->Prop} (c:Cmp prog w A s κ P kk) (j:J κ P kk st0 st lo) (hi:i+2<=(pendingOf st).size)
  (h:∀st',J κ P kk st0 st' lo->(pendingOf st').size+1=(pendingOf st).size->(∀q k,lo<=q->seg (arrOf st') q k=seg (arrOf st) q k)->Q true st'):Gv prog w A E s (mergeAt' i) st Q:=by
 have hl:i+2<=(pendingOf st).toList.length:=by simpa using hi
 obtain⟨X,x,y,Y,e,hX⟩:∃X x y Y,(pendingOf st).toList=X++x::y::Y/\X.length=i:=by
  refine⟨(pendingOf st).toList.take i,(pendingOf st).toList[i],(pendingOf st).toList[i+1],(pendingOf st).toList.drop (i+2),?_,by rw[Nf];lia⟩
  rw[<- MM,<- MM,NH]
 have rn:=j.runs
 rw[e] at rn
 obtain⟨m,r1,r2⟩:=Rn.app.mp rn
 obtain⟨x1,x2,x3⟩:=x
 obtain⟨y1,y2,y3⟩:=y
 obtain⟨q1,q2,q3,q4,q5,q6,q7⟩:=r2
 dsimp only at q1 q2 q3 q4 q5 q6 q7
 subst q1
 subst q4
 have l7:=q7.le
 have hs:=j.le
 have p1:(pendingOf st)[i]?=some (x1,x2,x3):=by rw[<- Md,e,LY (by lia),hX,QV];rfl
 have p2:(pendingOf st)[i+1]?=some (x1+x2,y2,y3):=by rw[<- Md,e,LY (by lia),hX,Nat.add_sub_cancel_left];rfl
 refine vz c j.ok.kind j.ok.fail j.ok.all j.ok.nd p1 p2 q2 q5 (by lia) q3 q6 (fun st' M k1 f1 pd1 a1 pm sm=>?_)
 have pr:Prt (arrOf st) (arrOf st') x1 (x2+y2) M:=⟨by rw[<- QH];exact a1,pm⟩
 have pl:(pendingOf st').toList=X++(x1,x2+y2,x3)::Y:=by
  rw[pd1]
  have e1:(((pendingOf st).setIfInBounds i (x1,x2+y2,x3)).eraseIdxIfInBounds (i+1)).toList=((pendingOf st).toList.set i (x1,x2+y2,x3)).eraseIdx (i+1):=by simp
  rw[e1,e,<- hX]
  simp[List.eraseIdx_append]
  intro hh;lia
 refine h st' ⟨⟨k1,f1,pr.P j.ok.all,pr.nd j.ok.nd⟩,pr.all.trans j.perm,?_,by rw[pr.size];exact hs⟩ ?_ (fun q k hq=>pr.after (by lia) (by lia))
 ·rw[pl]
  refine Rn.app.mpr ⟨x1,r1.BU fun i k h1 h2=>pr.before (by lia) h2,rfl,by show 1<=x2+y2;lia,?_,?_⟩
  ·show Srt kk (seg (arrOf st') x1 (x2+y2))
   rw[pr.seg (by lia)];exact sm
  ·show Rn kk (arrOf st') (x1+(x2+y2)) Y lo
   rw[<- QH]
   exact q7.BU fun i k h1 h2=>pr.after (by lia) (by lia)
 ·have e1:(pendingOf st').size=(pendingOf st').toList.length:=by simp
  have e2:(pendingOf st).size=(pendingOf st).toList.length:=by simp
  rw[e1,e2,pl,e];simp;lia
end
section
variable {prog:Mc}{w:MU}{A:MY}{E:LM->LP->Prop}{s:LP}{κ:Ox}{P:Mx->Prop}{kk:Mx->Int}
theorem J.part {st0 st st2:L7}{lo n:Nat} (j:J κ P kk st0 st lo) (r:Arr st st2 a2) (p:Prt (arrOf st) a2 lo n S) (hn:lo+n<=(arrOf st).size):J κ P kk st0 st2 lo:=by
 refine⟨r.ok j.ok p,by rw[r.arr];exact p.all.trans j.perm,?_,by rw[r.arr,p.size];lia⟩
 rw[r.arr,r.pend]
 exact j.runs.BU fun i k h1 h2=>p.before hn h2
theorem J.push {st0 st st':L7}{lo n:Nat} (j:J κ P kk st0 st lo) (ek:kindOf st'=kindOf st) (ef:failedOf st'=failedOf st) (ea:arrOf st'=arrOf st) (ep:(pendingOf st').toList.map (fun x=>(x.1,x.2.1))=(pendingOf st).toList.map (fun x=>(x.1,x.2.1))++[(lo,n)]) (h1:1<=n) (hn:lo+n<=(arrOf st).size) (sr:Srt kk (seg (arrOf st) lo n)):J κ P kk st0 st' (lo+n):=by
 refine⟨⟨ek.trans j.ok.kind,ef.trans j.ok.fail,by rw[ea];exact j.ok.all,by rw[ea];exact j.ok.nd⟩,by rw[ea];exact j.perm,?_,by simp_all⟩
 rw[ea]
 refine Rn.pow (L:=(pendingOf st).toList++[(lo,n,0)]) (Rn.app.mpr ⟨lo,j.runs,rfl,h1,sr,rfl⟩) ?_
 simp_all
theorem r6 (p:Array (Nat × Nat × Nat)) (i pw lo:Nat) (n:Nat):((p.modify i fun x=>(x.1,x.2.1,pw)).push (lo,n,0)).toList.map (fun x=>(x.1,x.2.1))=p.toList.map (fun x=>(x.1,x.2.1))++[(lo,n)]:=by
 rw[Array.toList_push,Oc]
 congr 1
 apply OE
 intro k
 rw[Me,Me,Md,Md,Array.getElem?_modify]
 split
 ·cases p[k]?<;>rfl
 ·rfl
theorem sj (p:Array (Nat × Nat × Nat)) (lo n):(p.push (lo,n,0)).toList.map (fun x=>(x.1,x.2.1))=p.toList.map (fun x=>(x.1,x.2.1))++[(lo,n)]:=by
 simp
theorem sP {st:L7}{Q:Unit->L7->Prop} (c:Cmp prog w A s κ P kk) (o:Ok κ P kk st) (hp:pendingOf st = #[]) (h:∀st',failedOf st'=none->(arrOf st').toList.Perm (arrOf st).toList->Srt kk (arrOf st').toList->Q () st'):Gv prog w A E s sortRuns' st Q:=by
 have j0:J κ P kk st st 0:=⟨o,.refl _,by rw[hp];rfl,Nj _⟩
 with_unfolding_all refine Gv.bind (Gv.get ?_)
 refine Gv.bind (Gv.mono (Q:=fun z st'=>∃lo,z=(none,lo)/\J κ P kk st st' (arrOf st).size) (Gv.range (fun m z st'=>∃lo,z=(none,lo)/\J κ P kk st st' lo/\(arrOf st).size<=lo+m) ⟨0,rfl,j0,by show(arrOf st).size<=0+((arrOf st).size - 0);lia⟩ (fun x m z st1 hz=>?_) (fun z st1 hz=>?_)) (fun z st1 hz=>?_))
 ·obtain⟨lo,rfl,j1,pr⟩:=hz
  have sz1:=j1.size
  have le1:=j1.le
  by_cases hl:lo ≥ (arrOf st).size
  ·rw[if_pos hl]
   have:lo=(arrOf st).size:=by lia
   subst this
   exact Gv.pure ⟨_,rfl,j1⟩
  rw[if_neg hl]
  refine Gv.bind (tj c j1.ok (nrem:=(arrOf st).size - lo) (by lia) (by lia) (fun n a2 st2 S n1 n2 r2 p2 sS=>?_))
  have j2:=j1.part r2 p2 (by lia)
  have s2:Srt kk (seg (arrOf st2) lo n):=by rw[r2.arr,p2.seg (by lia)];exact sS
  have sz2:=j2.size
  dsimp only
  generalize hmr:(minRun' (arrOf st).size (arrOf st).size 0)=mr
  by_cases lt:n<mr
  ·rw[<- hmr] at lt
   refine bp (fun lt'=>?_) (fun nl=>absurd lt nl)
   refine Gv.bind (Gv.rule ?_)
   refine Gv.bind (oy c j2.ok (n:=min ((arrOf st).size - lo) (minRun' (arrOf st).size (arrOf st).size 0)) (by lia) n1 (by rw[hmr];lia) s2 (fun a3 st3 r3 p3 s3=>?_))
   have hN1:1<=(min ((arrOf st).size - lo) (minRun' (arrOf st).size (arrOf st).size 0)):=by rw[hmr];lia
   have hN2:lo+(min ((arrOf st).size - lo) (minRun' (arrOf st).size (arrOf st).size 0))<=(arrOf st).size:=by lia
   have jX:J κ P kk st st3 lo:=j2.part r3 p3 (by lia)
   have sX:Srt kk (seg (arrOf st3) lo (min ((arrOf st).size - lo) (minRun' (arrOf st).size (arrOf st).size 0))):=by rw[r3.arr];exact s3
   refine Gv.bind (Gv.get ?_)
   split
   ·refine Gv.bind (Gv.mono (Q:=fun z st4=>z=(none,())/\J κ P kk st st4 lo/\Srt kk (seg (arrOf st4) lo (min ((arrOf st).size - lo) (minRun' (arrOf st).size (arrOf st).size 0)))) (Gv.range (fun m z st4=>z=(none,())/\J κ P kk st st4 lo/\Srt kk (seg (arrOf st4) lo (min ((arrOf st).size - lo) (minRun' (arrOf st).size (arrOf st).size 0)))) ⟨rfl,jX,sX⟩ (fun x m z st4 hz=>?_) (fun z st4 hz=>hz)) (fun z st4 hz=>?_))
    ·obtain⟨rfl,j4,s4⟩:=hz
     refine Gv.bind (Gv.get ?_)
     by_cases h2:(pendingOf st4).size > 1
     ·rw[if_pos h2]
      split
      ·refine bp (fun _=>Gv.pure ⟨rfl,j4,s4⟩) (fun _=>?_)
       refine Gv.bind (iP (i:=(pendingOf st4).size - 2) c j4 (by lia) (fun st5 j5 _ e5=>?_))
       exact Gv.pure ⟨rfl,j5,by rw[e5 lo (min ((arrOf st).size - lo) (minRun' (arrOf st).size (arrOf st).size 0)) (LH _)];exact s4⟩
      ·exact Gv.pure ⟨rfl,j4,s4⟩
     ·rw[if_neg h2]
      exact Gv.pure ⟨rfl,j4,s4⟩
    ·obtain⟨rfl,j4,s4⟩:=hz
     dsimp only
     refine Gv.bind (Gv.mU fun st5 g5=>?_)
     refine Gv.bind (Gv.mU fun st6 g6=>?_)
     have j6:J κ P kk st st6 (lo+(min ((arrOf st).size - lo) (minRun' (arrOf st).size (arrOf st).size 0))):=by
      refine j4.push (by rw[g6,g5]) (by rw[g6,g5]) (by rw[g6,g5]) ?_ hN1 (by have:=j4.size;lia) s4
      rw[g6,g5]
      exact r6 _ _ _ _ _
     exact Gv.pure ⟨lo+(min ((arrOf st).size - lo) (minRun' (arrOf st).size (arrOf st).size 0)),rfl,j6,by lia⟩
   ·refine Gv.bind (Gv.mU fun st6 g6=>?_)
    have j6:J κ P kk st st6 (lo+(min ((arrOf st).size - lo) (minRun' (arrOf st).size (arrOf st).size 0))):=by
     refine jX.push (by rw[g6]) (by rw[g6]) (by rw[g6]) ?_ hN1 (by have:=jX.size;lia) sX
     rw[g6]
     exact sj _ _ _
    exact Gv.pure ⟨lo+(min ((arrOf st).size - lo) (minRun' (arrOf st).size (arrOf st).size 0)),rfl,j6,by lia⟩
  ·rw[<- hmr] at lt
   refine bp (fun lt'=>absurd lt' lt) (fun nl=>?_)
   have jX:=j2
   have sX:=s2
   have hN1:1<=n:=n1
   have hN2:lo+n<=(arrOf st).size:=by lia
   refine Gv.bind (Gv.get ?_)
   split
   ·refine Gv.bind (Gv.mono (Q:=fun z st4=>z=(none,())/\J κ P kk st st4 lo/\Srt kk (seg (arrOf st4) lo n)) (Gv.range (fun m z st4=>z=(none,())/\J κ P kk st st4 lo/\Srt kk (seg (arrOf st4) lo n)) ⟨rfl,jX,sX⟩ (fun x m z st4 hz=>?_) (fun z st4 hz=>hz)) (fun z st4 hz=>?_))
    ·obtain⟨rfl,j4,s4⟩:=hz
     refine Gv.bind (Gv.get ?_)
     by_cases h2:(pendingOf st4).size > 1
     ·rw[if_pos h2]
      split
      ·refine bp (fun _=>Gv.pure ⟨rfl,j4,s4⟩) (fun _=>?_)
       refine Gv.bind (iP (i:=(pendingOf st4).size - 2) c j4 (by lia) (fun st5 j5 _ e5=>?_))
       exact Gv.pure ⟨rfl,j5,by rw[e5 lo n (LH _)];exact s4⟩
      ·exact Gv.pure ⟨rfl,j4,s4⟩
     ·rw[if_neg h2]
      exact Gv.pure ⟨rfl,j4,s4⟩
    ·obtain⟨rfl,j4,s4⟩:=hz
     dsimp only
     refine Gv.bind (Gv.mU fun st5 g5=>?_)
     refine Gv.bind (Gv.mU fun st6 g6=>?_)
     have j6:J κ P kk st st6 (lo+n):=by
      refine j4.push (by rw[g6,g5]) (by rw[g6,g5]) (by rw[g6,g5]) ?_ hN1 (by have:=j4.size;lia) s4
      rw[g6,g5]
      exact r6 _ _ _ _ _
     exact Gv.pure ⟨lo+n,rfl,j6,by lia⟩
   ·refine Gv.bind (Gv.mU fun st6 g6=>?_)
    have j6:J κ P kk st st6 (lo+n):=by
     refine jX.push (by rw[g6]) (by rw[g6]) (by rw[g6]) ?_ hN1 (by have:=jX.size;lia) sX
     rw[g6]
     exact sj _ _ _
    exact Gv.pure ⟨lo+n,rfl,j6,by lia⟩
 ·obtain⟨lo,rfl,j1,pr⟩:=hz
  have:=j1.le
  have:=j1.size
  have e:lo=(arrOf st).size:=by lia
  subst e
  exact⟨_,rfl,j1⟩
 ·obtain⟨lo,rfl,j1⟩:=hz
  dsimp only
  have ps:(pendingOf st1).size<=(arrOf st).size:=by have:=j1.runs.le;simpa using this
  refine Gv.bind (Gv.mono (Q:=fun z st4=>z=(none,())/\J κ P kk st st4 (arrOf st).size/\(pendingOf st4).size<=1) (Gv.range (fun m z st4=>z=(none,())/\J κ P kk st st4 (arrOf st).size/\(pendingOf st4).size<=m+1) ⟨rfl,j1,by show(pendingOf st1).size<=(arrOf st).size - 0+1;lia⟩ (fun x m z st4 hz=>?_) (fun z st4 hz=>?_)) (fun z st4 hz=>?_))
  ·obtain⟨rfl,j4,l4⟩:=hz
   refine Gv.bind (Gv.get ?_)
   by_cases h1:(pendingOf st4).size<=1
   ·rw[if_pos h1]
    exact Gv.pure ⟨rfl,j4,h1⟩
   ·rw[if_neg h1]
    refine Gv.bind (iP c j4 ?_ (fun st5 j5 e5 _=>?_))
    ·have g:∀(c:Prop) [Decidable c],(if c then (pendingOf st4).size - 2 - 1 else (pendingOf st4).size - 2)+2<=(pendingOf st4).size:=fun c _=>by split<;>lia
     exact g _
    ·exact Gv.pure ⟨rfl,j5,by lia⟩
  ·obtain⟨rfl,j4,l4⟩:=hz
   exact⟨rfl,j4,by lia⟩
  ·obtain⟨rfl,j4,l4⟩:=hz
   dsimp only
   refine Gv.pure (h st4 j4.ok.fail j4.perm ?_)
   have rn:=j4.runs
   have sz:=j4.size
   have l5:(pendingOf st4).toList.length<=1:=by simpa using l4
   cases e:(pendingOf st4).toList with
   | nil=>
    rw[e] at rn
    have:0=(arrOf st).size:=rn
    have e2:(arrOf st4).toList=[]:=List.length_eq_zero_iff.mp (by rw[ML];lia)
    rw[e2];exact O_
   | cons x r=>
    rw[e] at rn l5
    have:r=[]:=List.length_eq_zero_iff.mp (by rw[Mi] at l5;lia)
    subst this
    obtain⟨r1,r2,r3,r4⟩:=rn
    have r4:0+x.2.1=(arrOf st).size:=r4
    have e2:seg (arrOf st4) 0 x.2.1=(arrOf st4).toList:=by
     unfold seg
     rw[Qu,NX (by rw[ML];lia)]
    rw[e2] at r3
    exact r3
end
end L2.SM
namespace L2.Srt
open PySem PySem.W PyProof.Rows PySem.Calls L2.SM
section
variable {prog:Mc}{w:MU}{A:MY}{E:LM->LP->Prop}{s:LP}{a:Addr}{vs:List LM}
theorem jQ (vs:List LM):(vs.toArray.zip vs.toArray).toList=vs.map fun v=>(v,v):=by
 simp only[Array.toList_zip]
 induction vs with
 | nil=>rfl
 | cons v vs ih=>simp_all
noncomputable abbrev xK (prog:Mc) (w:MU) (A:MY) (s:LP) (vs:List LM) (κ:Ox) (R:List LM->Prop):Prop:=∀E,Gv prog w A E s sortRuns' (QL κ (vs.toArray.zip vs.toArray) #[] 7 none) fun _ st'=>failedOf st'=none/\((arrOf st').map (·.2)).size=vs.length/\R ((arrOf st').map (·.2)).toList
theorem nW {n:Nat}{R:List LM->Prop}{P:PySem.Fin->LP->Prop} (ho:s.heap.get? a=some (seqObj "list" vs.toArray n)) (h2:2<=vs.length) (hz:vs.length<=100000)
  (hk:wpAny (model prog w) A (keyKind' vs.toArray) (fun κ s'=>s'={ s with heap:=bM s.heap a vs }/\xK prog w A { s with heap:=bM s.heap a vs } vs κ R) (fun _ _=>False) { s with heap:=bM s.heap a vs })
  (h:∀out:List LM,R out->P (.done (.ret .none)) { s with heap:=sortedHeap s.heap a vs out.toArray }) :
  wpAny (model prog w) A (NC.«list.sort» ⟨[.ref a],[]⟩) P E s:=by
 obtain⟨e1,ho1⟩:∃e1,(s.heap.update a (Ob fun _=>(#[]:Array LM))).get? a=some (seqObj "list" #[] e1):=⟨_,get?_update_seq ho fun _=>#[]⟩
 have hm:(bM s.heap a vs).get? a=some (seqObj "list" #[] e1):=ox _ (ox _ ho1)
 rw[list_sort_plain]
 refine k3 (QT ho rfl ?_)
 refine k3 (P8 ho rfl ?_ (by rw[Mb,MV];lia) (Nj _))
 refine k3 (Qv ho1 rfl ?_)
 refine k3 (Qt ?_ (by show vs.length<=_;rw[MV];lia))
 refine k3 (P9 ?_ (Nj _))
 refine NO ?_
 have hn2:¬ vs.toArray.size<2:=by rw[Mb];lia
 rw[if_neg hn2,if_neg hn2]
 refine k3 (Nw hk (fun κ s0 hk=>?_) fun _ _ x=>x.elim)
 obtain⟨rfl,cm⟩:=hk
 refine k3 (Nw (cm _) ?_ fun _ _ e=>e)
 rintro⟨⟨⟩,st'⟩ s' ⟨rfl,hf,hsz,sr⟩
 refine k3 (Qv hm rfl ?_)
 refine k3 (P8 hm rfl ?_ (Nj _) (L0 (Qm hsz) (by rw[MV];lia)))
 rw[hf]
 simp only[bne_self_eq_false]
 have:=h _ sr
 exact LJ this
theorem mC (hl:s.heap.IsList l vs.toArray) (h2:2<=vs.length) (hz:vs.length<=100000)
  (hk:wpAny (model prog w) A.in1.in1 (keyKind' vs.toArray) (fun κ s'=>s'={ s with heap:=bM (bF s.heap vs) (s.heap.objs.size+1) vs }/\xK prog w A.in1.in1 { s with heap:=bM (bF s.heap vs) (s.heap.objs.size+1) vs } vs κ R) (fun _ _=>False) { s with heap:=bM (bF s.heap vs) (s.heap.objs.size+1) vs })
  (h:∀out:List LM,R out->Q (.ref (s.heap.objs.size+1)) { s with heap:=sortedAll s.heap vs out.toArray }) :
  wpAny (model prog w) A (call (.builtin "sorted") [.ref l]) Q E s:=by
 refine Calls.call_function_entry kind_sorted plain_sorted entry_sorted (args_sorted1 _) ?_
 refine k3 (LJ ?_)
 refine k3 (collect_list hl ?_ (by rw[MV];lia))
 refine k3 (P9 ?_ (by rw[MV];lia))
 have hsz:((s.heap.push (seqObj "list" #[] 0)).update s.heap.objs.size (Ob (·++vs.toArray))).objs.size=s.heap.objs.size+1:=by
  simp
 have hoL:(bF s.heap vs).get? (s.heap.objs.size+1)=some (seqObj "list" vs.toArray 0):=by
  unfold bF;rw[<- hsz];exact LN _ rfl
 rw[hsz]
 refine k3 (NO (Ny slot_list_sort ⟨_,hoL,rfl⟩ entry_list_sort (nW (s:={ s with heap:=bF s.heap vs }) hoL h2 hz hk fun out sr=>⟨_,rfl,?_⟩) (args_list_sort _)))
 exact LJ ⟨_,rfl,h out sr⟩
theorem Ct {kv:LM->Int} (cm:Cmp prog w A s κ (fun x=>x.1∈vs/\x.2=x.1) (fun x=>kv x.1)) (nd:(vs.map kv).Nodup):xK prog w A s vs κ fun out=>out.Perm vs/\out.Pairwise fun x y=>kv x<kv y:=by
 intro E
 have zl:=jQ vs
 have ok:Ok κ (fun x:Mx=>x.1∈vs/\x.2=x.1) (fun x=>kv x.1) (QL κ (vs.toArray.zip vs.toArray) #[] 7 none):=by
  refine⟨rfl,rfl,fun x hx=>?_,?_⟩
  ·have hx:=Nx.mpr hx
   rw[zl] at hx
   obtain⟨v,hv,rfl⟩:=L5.mp hx
   exact⟨hv,rfl⟩
  ·show((vs.toArray.zip vs.toArray).toList.map _).Nodup
   rw[zl,Mf];exact nd
 refine sP cm ok rfl (fun st' f1 pm sr=>?_)
 have p1:((arrOf st').map (·.2)).toList.Perm vs:=by
  have:=pm.map (fun x:Mx=>x.2)
  rw[Qd]
  refine this.trans ?_
  rw[zl,Mf]
  have:((fun x:Mx=>x.2) ∘ fun v=>(v,v))=(id:LM->LM):=rfl
  rw[this,List.map_id]
 refine⟨f1,by have:=p1.length_eq;simpa using this,p1,?_⟩
 rw[Qd,MH]
 refine OV ?_ sr
 intro x y hx hy lt
 have gx:∀z:Mx,z∈(arrOf st').toList->z.2=z.1:=fun z hz=>by
  have hz:=pm.mem_iff.mp hz
  rw[zl] at hz
  obtain⟨v,_,rfl⟩:=L5.mp hz
  rfl
 rw[gx x hx,gx y hy];exact lt
end
noncomputable def kT:Nat->List Int->Int
 | 0,_=>0
 | _+1,[]=>0
 | n+1,x::r=>(x+1)*100 ^ n+kT n r
noncomputable def fG:List Int->List Int->Bool
 | [],ys=>decide (0<ys.length)
 | _::_,[]=>false
 | x::xs,y::ys=>if x=y then fG xs ys else decide (x<y)
noncomputable def Bd (xs:List Int):Prop:=∀x∈xs,0<=x/\x<=98
theorem t9:∀(n:Nat){xs:List Int},Bd xs->0<=kT n xs/\kT n xs<100 ^ n
 | 0,xs,_=>by unfold kT;lia
 | n+1,[],_=>by unfold kT;exact⟨NV _,P_ (by decide)⟩
 | n+1,x::r,b=>by
  have h:=t9 n fun y hy=>b y (td _ hy)
  have hx:=b x LL
  unfold kT
  have q1:0<=(x+1)*100 ^ n:=Int.mul_nonneg (by lia) (by lia)
  have q2:(x+1)*100 ^ n<=99*100 ^ n:=Nb (by lia) (by lia)
  lia
theorem qM:∀(n:Nat){xs ys:List Int},Bd xs->Bd ys->xs.length<=n->ys.length<=n->fG xs ys=decide (kT n xs<kT n ys)
 | n,[],[],_,_,_,_=>by cases n<;>simp[fG]
 | 0,[],y::ys,_,_,_,h=>by simp at h
 | 0,x::xs,ys,_,_,h,_=>by simp at h
 | n+1,[],y::ys,_,by_,_,_=>by
  have h:=(t9 n fun z hz=>by_ z (td _ hz)).1
  have hy:=by_ y LL
  have p:(0:Int)<100 ^ n:=P_ (by decide)
  have q:0<(y+1)*100 ^ n:=Int.mul_pos (by lia) p
  unfold fG kT
  grind
 | n+1,x::xs,[],bx,_,_,_=>by
  have h:=(t9 n fun z hz=>bx z (td _ hz)).1
  have hx:=bx x LL
  have p:(0:Int)<100 ^ n:=P_ (by decide)
  have q:0<(x+1)*100 ^ n:=Int.mul_pos (by lia) p
  unfold fG kT
  grind
 | n+1,x::xs,y::ys,bx,by_,lx,ly=>by
  have ih:=qM n (fun z hz=>bx z (td _ hz)) (fun z hz=>by_ z (td _ hz)) (by simp_all) (by simp_all)
  have hX:=t9 n fun z hz=>bx z (td _ hz)
  have hY:=t9 n fun z hz=>by_ z (td _ hz)
  unfold fG kT
  by_cases e:x=y
  ·simp_all
  ·rw[if_neg e]
   by_cases z:x<y
   ·have:(x+1+1)*100 ^ n<=(y+1)*100 ^ n:=Nb (by lia) (by lia)
    grind
   ·have:(y+1+1)*100 ^ n<=(x+1)*100 ^ n:=Nb (by lia) (by lia)
    grind
section
variable {prog:Mc}{w:MU}{A:MY}{E:LM->LP->Prop}{s:LP}
theorem tZ {fin:Bool}{Q:Bool->LP->Prop}:∀{us vs:List LM}{xs ys:List Int} (i:Nat),Oi us xs->Oi vs ys->fin=decide (xs.length<ys.length)->Q (fG xs ys) s->KatLex prog w A true fin Q (us.zip vs) i s
 | _,_,_,_,i,.nil,.nil,e,h=>by subst e;assumption
 | _,_,_,_,i,.nil,.cons y t r,e,h=>by subst e;assumption
 | _,_,_,_,i,.cons x t r,.nil,e,h=>by subst e;assumption
 | _,_,_,_,i,.cons x t r,.cons y u r',e,h=>by
  refine kat_cons (Qa (kat_go (fun e1=>kat_yes ?_) (fun e1=>kat_no ?_)))
  ·have e1:x=y:=by simp_all
   refine tZ (i+1) r r' ?_ ?_
   ·rw[e];simp
   ·unfold fG at h;simp_all
  ·have e1:¬ x=y:=by simp_all
   unfold fG at h
   rw[if_neg e1] at h
   cases i with
   | zero=>exact oneLt_int h
   | succ i=>
    have:((true&&(i+1 == 0)):Bool)=false:=by simp
    exact kat_one _ _ (lt_int h)
end
inductive Tps (h:Heap):List LM->List (List Int)->Prop
 | nil:Tps h [] []
 | cons {us:Array LM} {xs:List Int} {vs:List LM} {xss:List (List Int)}:h.get? a=some o->o.cls=.type "tuple" -> o.data=.seq us k->Oi us.toList xs->Tps h vs xss->Tps h (.ref a::vs) (xs::xss)
noncomputable def kvH (h:Heap):LM->Int
 | .ref a=>match h.get? a with
  | some o=>match o.data with
   | .seq us _=>kT 20 (us.toList.map numOf)
   | _=>0
  | none=>0
 | _=>0
section
variable {prog:Mc}{w:MU}{A:MY}{E:LM->LP->Prop}{s:LP}{vs:List LM}{xss:List (List Int)}{h h':Heap}
theorem Tps.len (r:Tps h vs xss):vs.length=xss.length:=by
 induction r with
 | nil=>rfl
 | cons _ _ _ _ _ ih=>simp[ih]
theorem Tps.keeps (r:Tps h vs xss) (k:∀b o,h.get? b=some o->h'.get? b=some o):Tps h' vs xss:=by
 induction r with
 | nil=>exact .nil
 | cons a b c d _ ih=>exact .cons (k _ _ a) b c d ih
theorem Tps.kv (r:Tps h vs xss):vs.map (kvH h)=xss.map (kT 20):=by
 induction r with
 | nil=>rfl
 | @cons a o k us xs vs xss ha hc hd hi r ih=>
  rw[LW]
  congr 1
  unfold kvH
  simp only[ha,hd,hi.nums]
theorem Tps.mem (r:Tps h vs xss){v:LM} (hv:v∈vs):∃a o k us xs,v=.ref a/\h.get? a=some o/\o.data=.seq us k/\Oi us.toList xs/\xs∈xss/\kvH h v=kT 20 xs:=by
 induction r with
 | nil=>cases hv
 | @cons a o k us xs vs xss ha hc hd hi r ih=>
  rcases LR.mp hv with rfl | hv
  ·refine⟨a,o,k,us,xs,rfl,ha,hd,hi,LL,?_⟩
   unfold kvH
   simp only[ha,hd,hi.nums]
  ·obtain⟨a',o',k',us',xs',e1,e2,e3,e4,e5,e6⟩:=ih hv
   exact⟨a',o',k',us',xs',e1,e2,e3,e4,td _ e5,e6⟩
theorem Tps.jB (r:Tps h vs xss) (ne:∀xs∈xss,xs≠[]):∃fs,KatTups h vs fs/\fs.length=xss.length/\∀v∈fs,∃x t,v=Ol x t:=by
 induction r with
 | nil=>exact⟨[],KatTups.nil,rfl,by simp⟩
 | @cons a o k us xs vs xss ha hc hd hi r ih=>
  obtain⟨fs,q1,q2,q3⟩:=ih fun xs hx=>ne xs (td _ hx)
  obtain⟨x,t,ul,e⟩:∃x t ul,us.toList=Ol x t::ul:=by
   have:=ne xs LL
   generalize us.toList=l at hi
   cases hi with
   | nil=>exact absurd rfl this
   | cons n t r=>exact⟨n,t,_,rfl⟩
  have e0:us[0]?=some (Ol x t):=by rw[<- Md,e];rfl
  refine⟨.int x t::fs,KatTups.cons ha hc hd e0 q1,by simp[q2],fun v hv=>?_⟩
  rcases LR.mp hv with rfl | hv
  ·exact⟨x,t,rfl⟩
  ·exact q3 v hv
structure OkT (xss:List (List Int)):Prop where
 h2:2<=xss.length
 hz:xss.length<=100000
 bd:∀xs∈xss,Bd xs/\xs.length<=20
 nd:(xss.map (kT 20)).Nodup
theorem Ai {β γ:Type}{f:β->γ}:∀{out m:List γ},out.Perm m->∀{l:List β},m=l.map f->∃q:List β,q.Perm l/\out=q.map f:=by
 intro out m h
 induction h with
 | nil=>simp
 | cons x _ ih=>
  intro l e
  cases l with
  | nil=>cases e
  | cons b l=>
   injection e with e1 e2
   obtain⟨q,hq,e3⟩:=ih e2
   exact⟨b::q,hq.cons b,by simp_all⟩
 | swap x y l'=>
  intro l e
  cases l with
  | nil=>cases e
  | cons b l=>
   cases l with
   | nil=>simp at e
   | cons c l=>
    simp only[LW,PN] at e
    obtain⟨e1,e2,e3⟩:=e
    exact⟨c::b::l,QG.swap _ _ _,by simp_all⟩
 | trans _ _ ih1 ih2=>
  intro l e
  obtain⟨q,hq,e2⟩:=ih2 e
  obtain⟨q',hq',e3⟩:=ih1 e2
  exact⟨q',hq'.trans hq,e3⟩
theorem range_getD {β:Type} (l) (d:β):l=(LK l.length).map fun i=>l.getD i d:=by
 apply Pn (by simp)
 simp_all
theorem yj {Q:Ox->LP->Prop} (r:Tps s.heap vs xss) (ne:∀xs∈xss,xs≠[]) (bd:∀xs∈xss,Bd xs/\xs.length<=20) (h1:1<=xss.length)
  (h:∀κ,Cmp prog w A s κ (fun x=>x.1∈vs/\x.2=x.1) (fun x=>kvH s.heap x.1)->Q κ s):wpAny (model prog w) A (keyKind' vs.toArray) Q E s:=by
 obtain⟨fs,t,fl,fi⟩:=r.jB ne
 refine kat_kind (T:=.type "int") t (by lia) (fun v hv=>?_) (by decide +kernel) ?_
 ·obtain⟨x,tk,rfl⟩:=fi v hv
  exact .now
 ·rw[show(Ot "int" != Ot "tuple")=true by decide +kernel]
  refine h _ fun x y hx hy C hc=>?_
  obtain⟨a,oa,ka,ua,xa,e1,ga,da,ia,ma,va⟩:=r.mem hx.1
  obtain⟨b,ob,kb,ub,xb,e2,gb,db,ib,mb,vb⟩:=r.mem hy.1
  have hd:decide (kvH s.heap x.1<kvH s.heap y.1)=fG xa xb:=by
   simp only[va,vb]
   exact(qM 20 (bd _ ma).1 (bd _ mb).1 (bd _ ma).2 (bd _ mb).2).symm
  rw[hd] at hc
  rw[e1,e2]
  refine kat_lt ga da gb db (tZ 0 ia ib ?_ hc)
  have l1:ua.size=xa.length:=by rw[<- ia.nums,LQ,ML]
  have l2:ub.size=xb.length:=by rw[<- ib.nums,LQ,ML]
  rw[l1,l2]
end
end L2.Srt
namespace L2
open PySem PySem.Spec PyProof.Rows L2.Srt
inductive TpV (K) (H):List V->List (List Int)->Prop
 | nil:TpV K H [] []
 | cons {xs:List V} {xss:List (List Int)}:SqT K H a (ns.map V.int)->TpV K H xs xss->TpV K H (.ref a::xs) (ns::xss)
theorem TpV.len {K:gV} (r:TpV K H xs xss):xs.length=xss.length:=by
 induction r with
 | nil=>rfl
 | cons _ _ ih=>simp[ih]
theorem nr:∀{ns:List Int}{us:List LM},Vals (ns.map V.int) us->Oi us ns
 | [],_,.nil=>.nil
 | n::ns,_,.cons ⟨t,e⟩ r=>by subst e;exact .cons n t (nr r)
section
variable {X:Cx}
theorem Inv.tps {σ:St} (I:Inv X pins σ H s) (r:TpV X.K H xs xss):∀{us:List LM},Vals xs us->Tps s.heap us xss:=by
 induction r with
 | nil=>intro us v;cases v;exact .nil
 | cons h _ ih=>
  intro us v
  cases v with
  | cons ru rv=>
   cases ru
   obtain⟨its,rt,pl,hz⟩:=I.tuple h
   obtain⟨o,ho,hc,n,hd⟩:=pl
   exact .cons ho hc hd (by simpa using nr rt) (ih rv)
end
end L2
namespace L2.FE
open PySem PySem.Spec PyProof.Rows L2.Srt
noncomputable def vJ (x:List Int):List (List Int)->List (List Int)
 | []=>[x]
 | y::r=>if kT 20 x<=kT 20 y then x::y::r else y::vJ x r
noncomputable def lg:List (List Int)->List (List Int)
 | []=>[]
 | x::r=>vJ x (lg r)
theorem kr (x:List Int):∀l,(vJ x l).Perm (x::l)
 | []=>.refl _
 | y::r=>by
  unfold vJ
  split
  ·rfl
  ·exact((kr x r).cons y).trans (.swap x y r)
theorem i9:∀l,(lg l).Perm l
 | []=>.refl _
 | x::r=>(kr x _).trans ((i9 r).cons x)
theorem k8 (x:List Int):∀l,l.Pairwise (fun a b=>kT 20 a<=kT 20 b)->(vJ x l).Pairwise (fun a b=>kT 20 a<=kT 20 b)
 | [],_=>by simp[vJ]
 | y::r,h=>by
  unfold vJ
  rw[L6] at h
  split
  ·rename_i hx
   refine L6.mpr ⟨fun z hz=>?_,L6.mpr h⟩
   rcases LR.mp hz with rfl | hz
   ·exact hx
   ·exact Int.le_trans hx (h.1 z hz)
  ·rename_i hx
   refine L6.mpr ⟨fun z hz=>?_,k8 x r h.2⟩
   rcases LR.mp ((kr x r).mem_iff.mp hz) with rfl | hz
   ·lia
   ·exact h.1 z hz
theorem gP:∀l,(lg l).Pairwise (fun a b=>kT 20 a<=kT 20 b)
 | []=>.nil
 | x::r=>k8 x _ (gP r)
theorem jd:∀{xs ys:List (List Int)},xs.Perm ys->xs.Pairwise (fun a b=>kT 20 a<kT 20 b)->ys.Pairwise (fun a b=>kT 20 a<=kT 20 b)->xs=ys
 | [],ys,p,_,_=>by simp_all
 | x::xs,[],p,_,_=>absurd (QG.eq_nil p) (by simp)
 | x::xs,y::ys,p,hx,hy=>by
  rw[L6] at hx hy
  have e:x=y:=by
   grind
  subst e
  rw[jd (List.perm_cons x |>.mp p) hx.2 hy.2]
noncomputable def uj (ns:List Int):D:=.tup (ns.map D.int)
noncomputable def gj:List D->Option (List (List Int))
 | []=>some []
 | .tup ds::r=>match intsOf ds,gj r with
  | some ns,some xss=>some (ns::xss)
  | _,_=>none
 | _::_=>none
theorem i7:∀xss , gj (xss.map uj)=some xss
 | []=>rfl
 | ns::xss=>by
  show(match intsOf (ns.map D.int),gj (xss.map uj) with | some ns,some xss=>some (ns::xss) | _,_=>none)=_
  rw[eI,i7 xss]
theorem An {q:List Nat} (pm:q.Perm (LK xss.length)) (up:(q.map fun i=>kT 20 (xss.getD i [])).Pairwise (· < ·)):q.map (fun i=>xss.getD i [])=lg xss:=by
 refine jd ?_ ?_ (gP xss)
 ·have e:=L2.Srt.range_getD xss []
  have this:(q.map fun i=>xss.getD i []).Perm ((LK xss.length).map fun i=>xss.getD i []):=pm.map _
  exact(this.trans (.of_eq e.symm)).trans (i9 xss).symm
 grind
section
variable {X:Cx}{g:GG}{ε:EE}{K:gV}
theorem oH {α:List Addr}{H:Hp}:∀{ns:List Int}{vs:List V},ax K g α H (ns.map D.int) vs->vs=ns.map V.int
 | [],_,.nil=>rfl
 | n::ns,_,.cons r rs=>by cases r;rw[oH rs];rfl
theorem mX {α:List Addr}{H:Hp}:∀{ds:List D}{xs:List V}{xss:List (List Int)},ax K g α H ds xs->gj ds=some xss->TpV K H xs xss/\ds=xss.map uj
 | _,_,xss,.nil,e=>by cases e;exact⟨.nil,rfl⟩
 | d::ds,_,xss,.cons rd rs,e=>by
  cases rd with
  | @tup es p vs hp rs2=>
   have e:(match intsOf es,gj ds with | some ns,some xss=>some (ns::xss) | _,_=>none)=some xss:=e
   cases e1:intsOf es with
   | none=>simp_all
   | some ns=>
    cases e2:gj ds with
    | none=>simp_all
    | some yss=>
     rw[e1,e2] at e
     cases e
     obtain⟨a,b⟩:=mX rs e2
     have e3:=eQ e1
     subst e3
     have e4:=oH rs2
     subst e4
     exact⟨.cons (SqT.of hp) a,by rw[b];rfl⟩
  | _=>cases e
end
end L2.FE
namespace L2.Srt
open PySem PySem.W PyProof.Rows PySem.Calls L2.SM
section
variable {prog:Mc}{w:MU}{A:MY}{E:LM->LP->Prop}{s:LP}
theorem n4 (hoa:s.heap.get? a=some oa) (hda:oa.data=.seq us na) (ia:Oi us.toList xs)
  (hob:s.heap.get? b=some ob) (cb:ob.cls=.type "tuple") (hdb:ob.data=.seq vs nb) (ib:Oi vs.toList ys) (h:P (.done (.ret (.bool (fG xs ys)))) s) :
  wpAny (model prog w) A (NC.«tuple.__lt__» ⟨[.ref a,.ref b],[]⟩) P E s:=by
 have hTb:s.TypeIs (.ref b) "tuple" := ⟨_,hob,cb⟩
 show wpAny _ _ (isInstance (.ref b) (.type "tuple") >>= _) _ _ s
 refine k3 (wpAny_isInstance hTb isSubtype_tuple_tuple ?_)
 simp only[Pw,MW,if_false]
 refine k3 (wpAny_tupleItemsOf hoa hda ?_)
 refine k3 (wpAny_tupleItemsOf hob hdb ?_)
 refine k3 ?_
 refine wpAny_forIn_list _
  (fun rest r s'=>r.1=none/\s'=s/\∃x' y' xs' ys',rest=List.zip xs' ys'/\Oi xs' x'/\Oi ys' y'/\fG x' y'=fG xs ys/\decide (xs'.length<ys'.length)=decide (us.size<vs.size))
  _ ?_ ?_ _ _ ⟨rfl,rfl,xs,ys,us.toList,vs.toList,rfl,ia,ib,rfl,by simp⟩
 ·rintro⟨u,v⟩ rest r s' ⟨hr,rfl,x',y',xs',ys',hz,hx',hy',hdec,hlen⟩
  cases hx' with
  | nil=>simp at hz
  | cons k1 t1 hx''=>
   cases hy' with
   | nil=>simp at hz
   | cons k2 t2 hy''=>
    simp only[List.zip_cons_cons,PN,Prod.mk.injEq] at hz
    obtain⟨⟨rfl,rfl⟩,rfl⟩:=hz
    refine k3 (Qa ?_)
    by_cases hk:k1=k2
    ·subst hk
     rw[show(k1 == k1)=true by simp]
     simp only[Pw,MW,if_false]
     refine LJ ⟨rfl,rfl,_,_,_,_,rfl,hx'',hy'',?_,by simp_all⟩
     rw[<- hdec]
     conv=>rhs;unfold fG
     simp
    ·rw[show(k1 == k2)=false by simp_all]
     simp only[PZ,if_true]
     have hf:fG xs ys=decide (k1<k2):=by rw[<- hdec];unfold fG;simp_all
     rw[hf] at h
     refine k3 (Py (k3 ?_))
     refine(show wpAny (model prog w) A (compareOp .Lt (.int k1 t1) (.int k2 t2)) _ E s' from lt_int ?_)
     exact k3 (LJ (LJ (LJ h)))
 ·rintro⟨r1,r2⟩ s' ⟨hr,rfl,x',y',xs',ys',hz,hx',hy',hdec,hlen⟩
  simp only at hr
  subst hr
  refine LJ ?_
  have hfin:decide (us.size<vs.size)=fG xs ys:=by
   rw[<- hdec,<- hlen]
   cases hx' with
   | nil=>
    cases hy' with
    | nil=>rfl
    | cons _ _ _=>rfl
   | cons _ _ _=>
    cases hy' with
    | nil=>rfl
    | cons _ _ _=>simp at hz
  show P (.done (.ret (.bool (decide (us.size<vs.size))))) s'
  simp_all
theorem vB (hu:A.units<cLine) (hoa:s.heap.get? a=some oa) (ca:oa.cls=.type "tuple") (hda:oa.data=.seq us na) (ia:Oi us.toList xs)
  (hob:s.heap.get? b=some ob) (cb:ob.cls=.type "tuple") (hdb:ob.data=.seq vs nb) (ib:Oi vs.toList ys) (h:Q (fG xs ys) s):wpAny (model prog w) A (keyLt' oneType' (.ref a) (.ref b)) Q E s:=by
 have hT:s.TypeIs (.ref a) "tuple" := ⟨_,hoa,ca⟩
 rw[keyLt'_oneType,oneLt'_eq]
 simp only[if_true]
 refine k3 (wpAny_cRoomFor hu ?_)
 refine k3 (wpAny_callSpecialIfBound?_slot hT F.slot_tuple_lt (Ny F.slot_tuple_lt hT F.entry_tuple_lt (n4 hoa hda ia hob cb hdb ib ⟨_,rfl,?_⟩) (F.args_tuple_lt_2 _ _)))
 exact NB h
theorem Tps.memC (r:Tps h vs xss) (hv:v∈vs):∃a o k us xs,v=.ref a/\h.get? a=some o/\o.cls=.type "tuple" /\ o.data=.seq us k/\Oi us.toList xs/\xs∈xss/\kvH h v=kT 20 xs:=by
 induction r with
 | nil=>cases hv
 | @cons a o k us xs vs xss ha hc hd hi r ih=>
  rcases LR.mp hv with rfl | hv
  ·refine⟨a,o,k,us,xs,rfl,ha,hc,hd,hi,LL,?_⟩
   unfold kvH
   simp only[ha,hd,hi.nums]
  grind
theorem mY:∀{vs:List LM}{xss:List (List Int)}{Q:List (Option LM)->LP->Prop},Tps s.heap vs xss->(∀fs:List (Option LM),fs.length=xss.length->(xss.head?=some []->fs.head?=some none)->Q fs s)->wpAny (model prog w) A (vs.mapM firstOfTuple') Q E s
 | _,_,Q,.nil,h=>by rw[List.mapM_nil];exact LJ (h [] rfl (by simp))
 | _,_,Q,@Tps.cons _ a o k us xs vs xss ha hc hd hi r,h=>by
  rw[List.mapM_cons]
  refine k3 ?_
  rw[kas_first_eq]
  refine k3 (Looks.here (show Looks (model prog w) s.heap (typeOf (.ref a)) o.cls from(Looks.ld ha).andThen .now) ?_)
  rw[hc,if_neg (by simp)]
  refine k3 (QT ha hd (LJ ?_))
  refine k3 (mY r fun fs hl _=>LJ (h _ (by simp[hl]) (fun e=>?_)))
  have e:xs=[]:=by simp_all
  subst e
  have:us.toList=[]:=by cases hi':us.toList with | nil=>rfl | cons _ _=>rw[hi'] at hi;cases hi
  simp_all
theorem qt (r:Tps s.heap vs xss) (he:xss.head?=some []) (h:Q oneType' s):wpAny (model prog w) A (keyKind' vs.toArray) Q E s:=by
 rw[kat_kind_eq,List.mapM_toArray,map_eq_pure_bind]
 refine k3 (k3 (mY r fun fs hl hf=>LJ ?_))
 have hf:=hf he
 obtain⟨fr,rfl⟩:∃fr,fs=none::fr:=by
  cases fs with
  | nil=>grind
  | cons x fr=>simp_all
 rw[if_neg (by simp),if_neg (by simp)]
 obtain⟨v₁,vr,rfl⟩:∃v₁ vr,vs=v₁::vr:=by
  cases r with
  | nil=>grind
  | cons _ _ _ _ _=>simp
 rw[oneTypeOnly'_eq,List.mapM_toArray,map_eq_pure_bind]
 refine k3 (k3 (k3 (kas_mapM (r:=Ot "tuple") _ (fun v hv Q' hq=>?_) (LJ ?_))))
 ·obtain⟨a,o,k,us,xs,rfl,ha,hc,_⟩:=r.memC hv
  refine Looks.here (show Looks (model prog w) s.heap (typeOf (.ref a)) o.cls from(Looks.ld ha).andThen .now) ?_
  simp_all
 ·have hall:((Rw (fun _=>Ot "tuple") (v₁::vr)).toArray.all fun x=>x == Ot "tuple")=true:=by
   simp
  have h0:(Rw (fun _=>Ot "tuple") (v₁::vr)).toArray[0]?=some (Ot "tuple"):=by simp
  rw[h0]
  simp only[hall,if_true]
  exact LJ (LJ h)
end
section
variable {prog:Mc}{w:MU}{A:MY}{E:LM->LP->Prop}{s:LP}{vs:List LM}{xss:List (List Int)}{h h':Heap}
theorem tE (hu:A.units+64<cLine){l:Addr}{Q:LM->LP->Prop} (hl:s.heap.IsList l vs.toArray) (r:Tps s.heap vs xss) (ok:OkT xss) (ne:xss.head?=some [])
  (h:∀q:List Nat,q.Perm (LK xss.length)->(q.map fun i=>kT 20 (xss.getD i [])).Pairwise (· < ·)->Q (.ref (s.heap.objs.size+1)) { s with heap:=sortedAll s.heap vs (List.toArray (q.map fun i=>vs.getD i N7)) }) :
  wpAny (model prog w) A (call (.builtin "sorted") [.ref l]) Q E s:=by
 have len:=r.len
 have keep:∀b o,s.heap.get? b=some o->(bM (bF s.heap vs) (s.heap.objs.size+1) vs).get? b=some o:=fun b o q=>xJ (LZ (Pa (LI q))) (xG q)
 have r1:=r.keeps keep
 have h2:=ok.h2
 have hz:=ok.hz
 refine mC (R:=fun out=>out.Perm vs/\out.Pairwise fun x y=>kvH (bM (bF s.heap vs) (s.heap.objs.size+1) vs) x<kvH (bM (bF s.heap vs) (s.heap.objs.size+1) vs) y) hl (by lia) (by lia) ?_ (fun out ⟨pm,sr⟩=>?_)
 ·refine qt r1 ne ⟨rfl,Ct (kv:=kvH (bM (bF s.heap vs) (s.heap.objs.size+1) vs)) (fun x y hx hy C hc=>?_) (by rw[r1.kv];exact ok.nd)⟩
  obtain⟨a,oa,ka,ua,xa,e1,ga,ca,da,ia,ma,va⟩:=r1.memC hx.1
  obtain⟨b,ob,kb,ub,xb,e2,gb,cb,db,ib,mb,vb⟩:=r1.memC hy.1
  have hd:decide (kvH (bM (bF s.heap vs) (s.heap.objs.size+1) vs) x.1<kvH (bM (bF s.heap vs) (s.heap.objs.size+1) vs) y.1)=fG xa xb:=by
   simp only[va,vb]
   exact(qM 20 (ok.bd _ ma).1 (ok.bd _ mb).1 (ok.bd _ ma).2 (ok.bd _ mb).2).symm
  replace hc:C (decide (kvH (bM (bF s.heap vs) (s.heap.objs.size+1) vs) x.1<kvH (bM (bF s.heap vs) (s.heap.objs.size+1) vs) y.1)) _:=hc
  rw[hd] at hc
  rw[e1,e2]
  exact vB (by show A.units+1+1<cLine;lia) ga ca da ia gb cb db ib hc
 ·obtain⟨q,hq,e⟩:=Ai pm (range_getD vs N7)
  rw[e]
  rw[len] at hq
  refine h q hq ?_
  rw[e,MH] at sr
  rw[MH]
  refine OV ?_ sr
  intro i j hi hj lt
  have kq:∀i∈q,kvH (bM (bF s.heap vs) (s.heap.objs.size+1) vs) (vs.getD i N7)=kT 20 (xss.getD i []):=fun i hi=>by
   have hi':i<xss.length:=by have:=hq.mem_iff.mp hi;simpa using this
   have hv:i<vs.length:=by lia
   have kk:=r1.kv
   have e1:(vs.map (kvH (bM (bF s.heap vs) (s.heap.objs.size+1) vs)))[i]'(by simpa using hv)=(xss.map (kT 20))[i]'(by simpa using hi'):=by simp only[kk]
   simpa [hv,hi'] using e1
  rw[kq i hi,kq j hj] at lt
  exact lt
end
end L2.Srt
namespace L2
open PySem PySem.Spec PyProof.Rows L2.Srt
section
variable {X:Cx}
theorem vM (hu:X.A.units+64<cLine):bJ X (.builtin "sorted") (fun vs H Q=>∃p xs xss,vs=[.ref p]/\SqL X.K H p xs/\TpV X.K H xs xss/\OkT xss/\xss.head?=some [] ∧
  ∀l (q:List Nat),q.Perm (LK xss.length)->(q.map fun i=>kT 20 (xss.getD i [])).Pairwise (· < ·)->H l=none->Q (.ref l) (upd H l (.lst (q.map fun i=>xs.getD i .non)))):=by
 intro pins s σ H xs0 us Q I r h
 obtain⟨p,xs,xss,rfl,hq,pr,ok,ne,q⟩:=h
 obtain⟨u,rfl,rx⟩:=vals1 r
 cases rx
 obtain⟨its,rv,pl,hz⟩:=I.list hq
 refine tE hu pl.isList (I.tps pr rv) ok ne fun a pm up=>?_
 obtain⟨k,hk⟩:=QU s.heap its (List.toArray (a.map fun i=>its.getD i N7))
 have hn:H (s.heap.objs.size+1)=none:=I.hok.fresh (Pc _)
 have lx:=pr.len
 have al:a.length=xss.length:=by rw[pm.length_eq,Pd]
 have len:(a.map fun i=>xs.getD i V.non).length<=sizeLine:=by
  simp_all
 have vp:=o8 rv a (fun i hi=>by
  grind)
 refine⟨.ref (s.heap.objs.size+1),upd H (s.heap.objs.size+1) (.lst (a.map fun i=>xs.getD i .non)),I.laid (t':=s.toks) (fun _ _ z=>QE z) (Pc _) ⟨len,a.map fun i=>its.getD i N7,k,vp,?_⟩,rfl,q _ a pm up hn⟩
 rw[hk]
end
end L2
namespace L2.FE
open PySem PySem.Spec PyProof.Rows L2.Srt
noncomputable def okE (xss:List (List Int)):Bool:=decide (2<=xss.length/\xss.length<=100000)&&decide (xss.head?=some [])&&xss.all (fun xs=>decide (xs.length<=20)&&xs.all fun x=>decide (0<=x/\x<=98))&&decide ((xss.map (kT 20)).Nodup)
noncomputable def ki (nl:NL):List D->Hh->R D:=fun ds h=>match ds with
 | [d]=>match gm d h with
  | some xs=>if xs.length<2 then nl xs h else match gj xs with
   | some xss=>if okE xss=true then nl ((lg xss).map uj) h else .bad
   | none=>.bad
  | none=>.bad
 | _=>.bad
theorem ED (e:okE xss=true):OkT xss/\xss.head?=some []:=by
 unfold okE at e
 simp only[MC,decide_eq_true_eq,L4] at e
 obtain⟨⟨⟨⟨e1,e2⟩,e3⟩,e4⟩,e5⟩:=e
 exact⟨⟨e1,e2,fun xs hx=>⟨fun x hx'=>(e4 xs hx).2 x hx',(e4 xs hx).1⟩,e5⟩,e3⟩
section
variable {K:gV}{g:GG}{ε:EE}
noncomputable abbrev BQ (K:gV) (F:VK->VK):List V->Hp->VK->Prop:=fun vs H Q=>∃p xs xss,vs=[.ref p]/\SqL K H p xs/\TpV K H xs xss/\OkT xss/\xss.head?=some [] ∧
  ∀l (q:List Nat),q.Perm (LK xss.length)->(q.map fun i=>kT 20 (xss.getD i [])).Pairwise (· < ·)->H l=none->F Q (.ref l) (upd H l (.lst (q.map fun i=>xs.getD i .non)))
theorem xT (r:aU K g α H h) (rd:aJ K g α H d x) (e:gm d h=some ds):∃p vs,x=.ref p/\SqL K H p vs/\ax K g α H ds vs:=by
 unfold gm at e
 cases rd with
 | frl hq rs=>cases e;exact⟨_,_,rfl,hq.sq,rs⟩
 | ref hp=>obtain⟨vs,hv,rs⟩:=r.lst e hp;exact⟨_,vs,rfl,SqL.of hv,rs⟩
 | _=>cases e
theorem Aa [iq nl]:kF K g ε (ki nl) (fun vs H Q=>Cu K g9 vs H Q\/BQ K g9 vs H Q):=by
 intro α H h a x Q r ra w
 cases ra with
 | nil=>exact w.elim
 | cons rd rr=>
  cases rr with
  | cons _ _=>exact w.elim
  | nil=>
   unfold ki at w
   dsimp only at w
   cases e0:gm _ h with
   | none=>rw[e0] at w;exact w.elim
   | some ds=>
    rw[e0] at w
    dsimp only at w
    obtain⟨p,vs,rfl,hq,rs⟩:=xT r rd e0
    by_cases z:ds.length<2
    ·rw[if_pos z] at w
     exact .inl ⟨p,vs,rfl,hq,by rw[<- rs.length];exact z,fun l hl=>NL.post w r rs hl⟩
    ·rw[if_neg z] at w
     cases e:gj ds with
     | none=>rw[e] at w;exact w.elim
     | some xss=>
      rw[e] at w
      obtain⟨ok,w⟩:=WQ.eT w
      obtain⟨pr,rfl⟩:=mX rs e
      obtain⟨o1,o2⟩:=ED ok
      refine .inr ⟨p,vs,xss,rfl,hq,pr,o1,o2,fun l q pm up hl=>?_⟩
      have lt:∀i∈q,i<xss.length:=fun i hi=>by
       grind
      have rp:=rP rs q (fun i hi=>by simp_all)
      have ee:(q.map fun i=>(xss.map uj).getD i .non)=(lg xss).map uj:=by
       rw[<- An pm up,Mf]
       simp_all
      rw[ee] at rp
      exact NL.post w r rp hl
end
end L2.FE
namespace L2.SM
open PySem PySem.W PyProof.Rows
section
variable {prog:Mc}{w:MU}{A:MY}{E:LM->LP->Prop}{s:LP}{κ:Ox}{P:Mx->Prop}{kk:Mx->Int}
structure Upw (κ) (P:Mx->Prop) (kk:Mx->Int) (st:L7):Prop where
 kind:kindOf st=κ
 fail:failedOf st=none
 all:∀x∈arrOf st,P x
 up:(arrOf st).toList.Pairwise fun x y=>kk x<=kk y
theorem t8 {st:L7} (c:Cmp prog w A s κ P kk) (o:Upw κ P kk st) (h1:1<=(arrOf st).size) (h:Q (some (arrOf st).size) st):Gv prog w A E s (countRun' 0 (arrOf st).size) st Q:=by
 with_unfolding_all refine Gv.bind ?_
 refine Gv.qf (fun x z st'=>st'=st/\z=(none,x)/\1<=x) h1 ⟨rfl,rfl,LH _⟩ (fun x z st' hx hz=>?_) (fun z st' hz=>?_)
 ·obtain⟨rfl,rfl,g1⟩:=hz
  have hi:0+x<(arrOf st').size:=by lia
  have hj:0+x - 1<(arrOf st').size:=by lia
  have lt:¬ kk (arrOf st')[0+x]<kk (arrOf st')[0+x - 1]:=by
   have:=MB.mp o.up (0+x - 1) (0+x) (by simpa using hj) (by simpa using hi) (by lia)
   simp only[Array.getElem_toList] at this
   lia
  refine Gv.bind (Gv.bind (Gv.get (Gv.bind (Gv.elem (get_some hi) (Gv.bind (Gv.elem (get_some hj) (Gv.ltC c (o.all _ (Mp hi)) (o.all _ (Mp hj)) o.kind ?_)))))))
  rw[decide_eq_false lt]
  exact Gv.pure ⟨rfl,rfl,by lia⟩
 ·obtain⟨rfl,rfl,g1⟩:=hz
  exact bp (fun _=>Gv.pure h) (fun e=>absurd (by simp) e)
theorem yT:∀n,n<64->¬ n<minRun' n n 0:=by decide +kernel
theorem rV {st:L7}{Q:Unit->L7->Prop} (c:Cmp prog w A s κ P kk) (o:Upw κ P kk st) (hp:pendingOf st = #[]) (h2:2<=(arrOf st).size) (h63:(arrOf st).size<64) (h:∀st',failedOf st'=none->arrOf st'=arrOf st->Q () st'):Gv prog w A E s sortRuns' st Q:=by
 with_unfolding_all refine Gv.bind (Gv.get ?_)
 refine Gv.bind (Gv.mono (Q:=fun z st'=>∃lo,z=(none,lo)/\failedOf st'=none/\arrOf st'=arrOf st/\(pendingOf st').size<=1) (Gv.range (fun m z st'=>(z=(none,0)/\st'=st/\(arrOf st).size<=m)\/(z=(none,(arrOf st).size)/\failedOf st'=none/\arrOf st'=arrOf st/\(pendingOf st').size<=1)) (.inl ⟨rfl,rfl,LH _⟩) (fun x m z st1 hz=>?_) (fun z st1 hz=>?_)) (fun z st1 hz=>?_))
 ·rcases hz with⟨rfl,rfl,hm⟩ | ⟨rfl,f1,a1,p1⟩
  ·rw[if_neg (by lia)]
   refine Gv.bind (t8 c o (by lia) ?_)
   dsimp only
   refine bp (fun lt=>absurd lt (yT _ h63)) (fun _=>?_)
   refine Gv.bind (Gv.get ?_)
   split
   ·rename_i hh
    exfalso
    revert hh
    simp[hp]
   ·refine Gv.bind (Gv.mU fun st6 g6=>?_)
    exact Gv.pure (.inr ⟨by simp,by rw[g6];exact o.fail,by rw[g6],by rw[g6];show((pendingOf st1).push _).size<=1;rw[hp];simp⟩)
  ·rw[if_pos (LH _)]
   exact Gv.pure ⟨_,rfl,f1,a1,p1⟩
 ·rcases hz with⟨rfl,rfl,hm⟩ | ⟨rfl,f1,a1,p1⟩
  ·lia
  ·exact⟨_,rfl,f1,a1,p1⟩
 ·obtain⟨lo,rfl,f1,a1,p1⟩:=hz
  dsimp only
  refine Gv.bind (Gv.mono (Q:=fun z st4=>z=(none,())/\failedOf st4=none/\arrOf st4=arrOf st) (Gv.range (fun m z st4=>z=(none,())/\st4=st1) ⟨rfl,rfl⟩ (fun x m z st4 hz=>?_) (fun z st4 hz=>?_)) (fun z st4 hz=>?_))
  ·obtain⟨rfl,rfl⟩:=hz
   refine Gv.bind (Gv.get ?_)
   rw[if_pos p1]
   exact Gv.pure ⟨rfl,f1,a1⟩
  ·obtain⟨rfl,rfl⟩:=hz
   exact⟨rfl,f1,a1⟩
  ·obtain⟨rfl,f4,a4⟩:=hz
   dsimp only
   exact Gv.pure (h st4 f4 a4)
end
end L2.SM
namespace L2.Srt
open PySem PySem.W PyProof.Rows PySem.Calls L2.SM
section
variable {prog:Mc}{w:MU}{A:MY}{E:LM->LP->Prop}{s:LP}{vs:List LM}{xss:List (List Int)}
theorem Gr {kv:LM->Int} (cm:Cmp prog w A s κ (fun x=>x.1∈vs/\x.2=x.1) (fun x=>kv x.1)) (up:vs.Pairwise fun x y=>kv x<=kv y) (h2:2<=vs.length) (h63:vs.length<64):xK prog w A s vs κ fun out=>out=vs:=by
 intro E
 have zl:=jQ vs
 have zs:(vs.toArray.zip vs.toArray).size=vs.length:=by simp
 have ok:Upw κ (fun x:Mx=>x.1∈vs/\x.2=x.1) (fun x=>kv x.1) (QL κ (vs.toArray.zip vs.toArray) #[] 7 none):=by
  refine⟨rfl,rfl,fun x hx=>?_,?_⟩
  ·have hx:=Nx.mpr hx
   rw[zl] at hx
   obtain⟨v,hv,rfl⟩:=L5.mp hx
   exact⟨hv,rfl⟩
  ·show(vs.toArray.zip vs.toArray).toList.Pairwise _
   rw[zl,MH];exact up
 refine rV cm ok rfl (by show 2<=(vs.toArray.zip vs.toArray).size;lia) (by show(vs.toArray.zip vs.toArray).size<64;lia) (fun st' f1 ea=>?_)
 have e:((arrOf st').map (·.2)).toList=vs:=by
  rw[ea,Qd]
  show((vs.toArray.zip vs.toArray).toList.map _)=vs
  rw[zl,Mf]
  have:((fun x:Mx=>x.2) ∘ fun v=>(v,v))=(id:LM->LM):=rfl
  rw[this,List.map_id]
 exact⟨f1,by rw[<- ML,e],e⟩
theorem um {l:Addr}{Q:LM->LP->Prop} (hl:s.heap.IsList l vs.toArray) (r:Tps s.heap vs xss) (h2:2<=xss.length) (h63:xss.length<64) (bd:∀xs∈xss,Bd xs/\xs.length<=20) (ne:∀xs∈xss,xs≠[]) (up:(xss.map (kT 20)).Pairwise (·<=·))
  (h:Q (.ref (s.heap.objs.size+1)) { s with heap:=sortedAll s.heap vs vs.toArray }) :
  wpAny (model prog w) A (call (.builtin "sorted") [.ref l]) Q E s:=by
 have len:=r.len
 have keep:∀b o,s.heap.get? b=some o->(bM (bF s.heap vs) (s.heap.objs.size+1) vs).get? b=some o:=fun b o q=>xJ (LZ (Pa (LI q))) (xG q)
 have r1:=r.keeps keep
 exact mC hl (by lia) (by lia) (yj (s:={ s with heap:=bM (bF s.heap vs) (s.heap.objs.size+1) vs }) r1 ne bd (by lia) fun κ cm=>⟨rfl,Gr cm (by rw[<- r1.kv,MH] at up;exact up) (by lia) (by lia)⟩) (fun out e=>by subst e;exact h)
end
end L2.Srt
namespace L2
open PySem PySem.Spec PyProof.Rows L2.Srt
section
variable {X:Cx}
theorem vP:bJ X (.builtin "sorted") (fun vs H Q=>∃p xs xss,vs=[.ref p]/\SqL X.K H p xs/\TpV X.K H xs xss/\(2<=xss.length/\xss.length<64)/\(∀ns∈xss,L2.Srt.Bd ns/\ns.length<=20)/\(∀ns∈xss,ns≠[])/\(xss.map (kT 20)).Pairwise (·<=·) ∧
  ∀l,H l=none->Q (.ref l) (upd H l (.lst xs))):=by
 intro pins s σ H xs0 us Q I r h
 obtain⟨p,xs,xss,rfl,hq,pr,⟨h2,h63⟩,bd,ne,up,q⟩:=h
 obtain⟨u,rfl,rx⟩:=vals1 r
 cases rx
 obtain⟨its,rv,pl,hz⟩:=I.list hq
 refine um pl.isList (I.tps pr rv) h2 h63 bd ne up ?_
 obtain⟨k,hk⟩:=QU s.heap its its.toArray
 have hn:H (s.heap.objs.size+1)=none:=I.hok.fresh (Pc _)
 refine⟨.ref (s.heap.objs.size+1),upd H (s.heap.objs.size+1) (.lst xs),I.laid (t':=s.toks) (fun _ _ z=>QE z) (Pc _) ⟨hz,its,k,rv,?_⟩,rfl,q _ hn⟩
 rw[hk]
end
end L2
namespace L2.FE
open PySem PySem.Spec PyProof.Rows L2.Srt
noncomputable def okR (xss:List (List Int)):Bool:=decide (2<=xss.length/\xss.length<64)&&xss.all (fun xs=>!xs.isEmpty&&decide (xs.length<=20)&&xs.all fun x=>decide (0<=x/\x<=98))&&decide ((xss.map (kT 20)).Pairwise (·<=·))
noncomputable def jm (nl:NL):List D->Hh->R D:=fun ds h=>match ds with
 | [d]=>match gm d h with
  | some xs=>match gj xs with
   | some xss=>if okR xss=true then nl xs h else .bad
   | none=>.bad
  | none=>.bad
 | _=>.bad
section
variable {K:gV}{g:GG}{ε:EE}
noncomputable abbrev BH (K:gV) (F:VK->VK):List V->Hp->VK->Prop:=fun vs H Q=>∃p xs xss,vs=[.ref p]/\SqL K H p xs/\TpV K H xs xss/\(2<=xss.length/\xss.length<64)/\(∀ns∈xss,L2.Srt.Bd ns/\ns.length<=20)/\(∀ns∈xss,ns≠[])/\(xss.map (kT 20)).Pairwise (·<=·) ∧
  ∀l,H l=none->F Q (.ref l) (upd H l (.lst xs))
theorem Bj [iq nl]:kF K g ε (jm nl) (BH K g9):=by
 intro α H h a x Q r ra w
 cases ra with
 | nil=>exact w.elim
 | cons rd rr=>
  cases rr with
  | cons _ _=>exact w.elim
  | nil=>
   unfold jm at w
   dsimp only at w
   cases e0:gm _ h with
   | none=>rw[e0] at w;exact w.elim
   | some ds=>
    rw[e0] at w
    dsimp only at w
    obtain⟨p,vs,rfl,hq,rs⟩:=xT r rd e0
    cases e:gj ds with
    | none=>rw[e] at w;exact w.elim
    | some xss=>
     rw[e] at w
     obtain⟨ok,w⟩:=WQ.eT w
     obtain⟨pr,e9⟩:=mX rs e
     unfold okR at ok
     simp only[MC,decide_eq_true_eq,L4] at ok
     obtain⟨⟨h2,al⟩,up⟩:=ok
     exact⟨p,vs,xss,rfl,hq,pr,h2,fun xs hx=>⟨fun x hx'=>(al xs hx).2 x hx',(al xs hx).1.2⟩,fun xs hx z=>by have:=(al xs hx).1.1;rw[z] at this;simp at this,up,fun l hl=>NL.post w r rs hl⟩
end
end L2.FE
namespace FC
open PySem L2 L2.FE
noncomputable def b8:MF:=b9 2 (az (bV (aw asB (ao dLt (ae 1) (ah dJ (aa (ae 0) aj)))) (aW (ao dIx (ae 0) (ae 1))) a9)
  (aW (cC (.int 0))))
noncomputable def cE:MF:=b9 2 (az (aV 1 (ah AJ (aa (ae 0) (aa (ao bR (cC (.int 0)) (ae 0)) aj))))
  (aW (ah (eB s_) (aa (ae 1) (aa (ah yZ (aa (ao dGe (ae 1) (ao FK (cC (.int 10)) (cC (.int 18)))) aj)) (aa (ao vR (ae 1) (cC (.int 1000003))) aj))))))
noncomputable def dQ:MF:=b9 1 (az (aV 0 (ao vR (ao (bQ aD) (ae 0) (cC (.int 7919))) (cC (.int 2147483647))))
  (aW (ao vR (ao (bQ aD) (ao (bQ aD) (ao (mM aD) (ae 0) (ae 0)) (ao (mM aD) (cC (.int 48271)) (ae 0))) (cC (.int 12345))) (cC (.int 2147483629)))))
noncomputable def aI:MF:=b9 3 (az (bV (zE (aw asB (ao dEq (ao dIx (ae 0) (cC (.int 1))) (cC (.int 1)))) (aw asB (ao dGt (ao dIx (ae 0) (cC (.int 0))) (cC (.int 0))))) (az (aV 2 (ao vR (ao dIx (ae 0) (cC (.int 0))) (ae 1)))
  (az (qg kn (ae 0) (cC (.int 0)) (ao qk (ao dIx (ae 0) (cC (.int 0))) (ae 1)))
  (aW (ae 2)))) a9)
  (az (qg kn (ae 0) (cC (.int 2)) (ah dQ (aa (ao (bQ aD) (ah dQ (aa (ao dIx (ae 0) (cC (.int 2))) aj)) (cC (.int 7))) aj)))
  (aW (ao vR (ao qk (ao dIx (ae 0) (cC (.int 2))) (cC (.int 64))) (ae 1)))))
noncomputable def dN:MF:=b9 3 (az (aV 2 (ao dIx (ah (eB aD) (aa (ah (eB aD) (aa (cC (.int 2)) (aa (cC (.int 1)) aj))) (aa (ah (eB aD) (aa (cC (.int 4)) (aa (cC (.int 1)) aj))) (aa (ah (eB aD) (aa (cC (.int 4)) (aa (cC (.int 3)) aj))) aj)))) (ah aI (aa (ae 0) (aa (cC (.int 3)) aj)))))
  (aW (ah dE (aa (bu aD (eS fC (aa (ao bR (ae 1) (cC (.int 1))) aj)) [0,2] (aw asB (ao dLt (ah aI (aa (ae 1) (aa (ao dIx (ae 2) (cC (.int 0))) aj))) (ao dIx (ae 2) (cC (.int 1))))) (ae 0)) aj))))
noncomputable def dM:MF:=b9 1 (aW (wX (cUn (qP "int") (ae 0)) (DY (cUn (qP "bool") (ae 0)))))
noncomputable def bI:MF:=b9 3 (aW (wX (ah dM (aa (ae 0) aj)) (kh dLe dLe (ae 1) (ae 0) (ae 2))))
noncomputable def aE:MF:=b9 3 (bV (d_ (aw eZ (ah bI (aa (ae 0) (aa (ae 1) (aa (ae 2) aj)))))) Bk a9)
noncomputable def bU:MF:=b9 2 (aW (ah (kJ aD) (aa (cIf (aw eZ (ae 1)) (ao (bQ aD) (ao dIx (ae 1) (cUn nD (cC (.int 1)))) (cC (.int 1))) (cC (.int 0))) (aa (ao bR (ae 0) (cC (.int 1))) aj))))
noncomputable def bK:MF:=fun ds h=>((b9 4 (az (cW (ah aE (aa (ae 0) (aa (cC (.int 1)) (aa (cC (.int 12)) aj)))))
  (az (cW (ah aE (aa (ae 1) (aa (cC (.int 0)) (aa (cC (.int 12)) aj)))))
  (az (aV 2 (ah (eB aD) (aa (ah d8 aj) aj)))
  (az (eL (eS fC (aa (ae 1) aj)) (gN 3) (aV 2 (jt (bz (ae 2)) [0] (bz (ah bU (aa (ae 2) (aa (ae 0) aj)))) (ao (bQ aD) (ae 0) (ah d8 (aa (ae 1) aj))))))
  (aW (ae 2))))))) ds h).bind (cV h)
noncomputable def hZ:MF:=b9 4 (az (cW (ah aE (aa (ae 0) (aa (cC (.int 1)) (aa (cC (.int 12)) aj)))))
  (az (bV (d_ (aw eZ (cUn (qP "tuple") (ae 1)))) (aW (cC (.bl false))) a9)
  (az (aV 2 (cC (.int 0)))
  (az (eL (bz (ae 1)) (gN 3) (az (bV (d_ (aw eZ (ah bI (aa (ae 3) (aa (ae 2) (aa (ao bR (ae 0) (cC (.int 2))) aj)))))) (aW (cC (.bl false))) a9)
  (aV 2 (ao (bQ aD) (ae 3) (cC (.int 1))))))
  (aW (cC (.bl true)))))))
noncomputable def bh:MF:=b9 2 (bV (d_ (aw eZ (ah hZ (aa (ae 0) (aa (ae 1) aj))))) Bk a9)
noncomputable def cT:MF:=b9 1 (aW (ah dE (aa (bu aD (eS fC (aa (ao bR (ah dJ (aa (ae 0) aj)) (cC (.int 1))) aj)) [0] (aw asB (ao dGt (ao dIx (ae 1) (ae 0)) (ao dIx (ae 1) (ao (bQ aD) (ae 0) (cC (.int 1)))))) (ae 0)) aj)))
noncomputable def dv:MF:=b9 1 (az (bV (aw asB (ao dEq (ah dJ (aa (ae 0) aj)) (cC (.int 0)))) (aW (cC (.int 0))) a9)
  (aW (ao bR (ao dIx (ae 0) (cUn nD (cC (.int 1)))) (ah dJ (aa (bu aD (bz (ae 0)) [0] (aw asB (ao dLt (ae 0) (ao dIx (ae 1) (cUn nD (cC (.int 1)))))) (ae 0)) aj)))))
noncomputable def aZ:MF:=b9 3 (az (bV (aw asB (ao dEq (ah dJ (aa (ae 2) aj)) (cC (.int 0)))) (aW (ah gi (aa (ao dIx (ae 0) (cUn nD (cC (.int 1)))) aj))) a9)
  (az (bV (aw asB (ao dNe (ah cT (aa (ae 2) aj)) (ah dE (aa (bu aD (bz (ae 1)) [2] (aw asB (ao dLt (ae 0) (ao bR (ah dJ (aa (ae 1) aj)) (cC (.int 1))))) (ae 0)) aj)))) (aW (cC (.int 0))) a9)
  (aW (ao dIx (ao dIx (ae 0) (ao bR (ah dJ (aa (ae 0) aj)) (ah dJ (aa (ae 2) aj)))) (ah dv (aa (ae 2) aj))))))
noncomputable def di:MF:=x8 (fun ds h=>((b9 6 (az (aV 2 (ah (eB s_) (aa (ah (eB aD) (aa (cC (.int 1)) aj)) aj)))
  (az (eL (eS vG (aa (cC (.int 1)) (aa (ae 0) aj))) (gN 3) (az (aV 4 (ao dIx (ae 2) (cUn nD (cC (.int 1)))))
  (az (aV 5 (ao (dIn false) (ao bR (ao bR (ae 0) (cC (.int 1))) (ae 3)) (ae 1)))
  (cW (kQ eM (ae 2) (aa (bu aD (eS fC (aa (ao (bQ aD) (ae 3) (cC (.int 1))) aj)) [5,4] tt1 (ah gi (aa (cIf (aw eZ (ae 1)) (dn aD (ae 2) de (dR (ae 0))) (dn aD (ae 2) (dR (ae 0)) de)) aj))) aj))))))
  (aW (ae 2))))) ds h).bind (cV h))
noncomputable def aB:MF:=b9 2 (az (cW (ah bh (aa (ae 0) (aa (ae 1) aj))))
  (aW (ah aZ (aa (ah di (aa (ae 0) (aa (ae 1) aj))) (aa (ae 1) (aa (ah d8 aj) aj))))))
noncomputable def bT:MF:=b9 4 (az (cW (ah bh (aa (ae 0) (aa (ae 1) aj))))
  (az (aV 2 (ao (bQ aD) (ah d8 (aa (cC (.int 0)) aj)) (ah dE (aa (bu aD (bz (ae 1)) [] tt1 (ao (bQ aD) (ae 0) (cC (.int 1)))) aj))))
  (az (aV 3 (ao (bQ aD) (dn aD (ae 2) (dR (cC (.int 1))) de) (ah d8 (aa (ae 0) aj))))
  (aW (ah dE (aa (bu aD (t5 (aa (ae 2) (aa (ae 3) aj))) [] (unp tt1) (unp (ao bR (ae 1) (ae 0)))) aj))))))
noncomputable def eK:MF:=b9 4 (az (aV 2 (cC (.int 1)))
  (az (eL (eS fC (aa (ae 1) aj)) (gN 3) (aV 2 (ao qk (ao (mM aD) (ae 2) (ao bR (ae 0) (ae 3))) (ao (bQ aD) (ae 3) (cC (.int 1))))))
  (aW (ae 2))))
noncomputable def cD:MF:=b9 5 (az (aV 2 (cC (.int 1)))
  (az (aV 3 (ae 0))
  (az (eL (bz (ah bT (aa (ae 0) (aa (ae 1) aj)))) (gN 4) (az (oB 2 xQ (ah eK (aa (ae 3) (aa (ae 4) aj))))
  (oB 3 bR (ae 4))))
  (aW (ae 2)))))
noncomputable def dw:MF:=b9 2 (az (cW (ah aE (aa (ae 0) (aa (cC (.int 1)) (aa (cC (.int 30)) aj)))))
  (cW (ah aE (aa (ae 1) (aa (cC (.int 0)) (aa (cC (.int 30)) aj))))))
noncomputable def dz:MF:=b9 3 (az (aV 1 (ao (bQ aD) (ah dJ (aa (ae 0) aj)) (cC (.int 1))))
  (az (aV 2 (ao (bQ aD) (ao (bQ aD) (ah (eB aD) (aa (cC (.int 0)) aj)) (ae 0)) (ah (eB aD) (aa (cC (.int 0)) aj))))
  (aW (bu aD (eS fC (aa (ae 1) aj)) [2,1] tt1 (ao (bQ aD) (ao (mM aD) (ao (bQ aD) (ae 0) (cC (.int 1))) (ao dIx (ae 1) (ao (bQ aD) (ae 0) (cC (.int 1))))) (ao (mM aD) (ao bR (ae 2) (ae 0)) (ao dIx (ae 1) (ae 0))))))))
noncomputable def iu:MF:=b9 2 (az (cW (ah aE (aa (ae 0) (aa (cC (.int 1)) (aa (cC (.int 30)) aj)))))
  (az (aV 1 (ah (eB aD) (aa (cC (.int 1)) aj)))
  (az (uQ 64 (aw asB (ao dLt (ah dJ (aa (ae 1) aj)) (ae 0))) (aV 1 (ah dz (aa (ae 1) aj))))
  (aW (ae 1)))))
noncomputable def dP:MF:=b9 2 (az (cW (ah dw (aa (ae 0) (aa (ae 1) aj))))
  (aW (ah gi (aa (dn aD (ah iu (aa (ae 0) aj)) (dR (ae 1)) (dR (ao (bQ aD) (ae 1) (cC (.int 1))))) aj))))
noncomputable def dC:MF:=b9 2 (az (bV (fY (d_ (aw eZ (cUn (qP "tuple") (ae 0)))) (aw asB (ao dEq (ah dJ (aa (ae 0) aj)) (cC (.int 0))))) (aW (cC (.bl false))) a9)
  (az (eL (bz (ae 0)) (gN 1) (bV (fY (d_ (aw eZ (ah dM (aa (ae 1) aj)))) (aw asB (ao dLt (ae 1) (cC (.int 1))))) (aW (cC (.bl false))) a9))
  (aW (ao dLe (ah gi (aa (ae 0) aj)) (cC (.int 12))))))
noncomputable def fT:MF:=fun ds h=>((b9 4 (az (bV (d_ (aw eZ (ah dC (aa (ae 0) aj)))) Bk a9)
  (az (aV 1 (ah (eB s_) aj))
  (az (aV 2 (cC (.int 0)))
  (az (eL (bz (ae 0)) (gN 3) (az (oB 2 xN (ae 3))
  (cW (kQ eM (ae 1) (aa (ao bR (ae 2) (cC (.int 1))) aj)))))
  (aW (ah d8 (aa (ae 2) (aa (ah dE (aa (dn aD (ae 1) de (dR (cUn nD (cC (.int 1))))) aj)) aj))))))))) ds h).bind (cV h)
noncomputable def a_:MF:=CG 3 (aV 2 (ah di (aa (ae 0) (aa (ae 1) aj)))) "just_count" [2,1]
noncomputable def gS:Str->Option (Nat × MF):=fun x=>if x="just_count" then some (3,aZ) else none
@[simp] theorem lr:gS "just_count" = some (3,aZ):=by kernel_rfl
noncomputable def cZ:MF:=b9 4 (az (aV 3 (bu aD (eS fC (aa (ae 0) aj)) [1] (aw asB (ao (dIn true) (ae 0) (ae 1))) (ao (bQ aD) (ae 1) (ah d8 (aa (ae 0) aj)))))
  (aW (bu aD (bz (ae 3)) [2] (aw asB (ao dGt (gk gS (ae 1) (aa (ae 0) aj)) (cC (.int 0)))) (ae 0))))
noncomputable def bg:MF:=b9 7 (az (aV 3 (ah d8 aj))
  (az (eL (eS fC (aa (ae 0) aj)) (gN 4) (eL (bz (ah cZ (aa (ae 0) (aa (ae 3) (aa (ae 2) aj))))) (gN 5) (az (aV 6 (gk gS (ae 2) (aa (ae 5) aj)))
  (az (bV (aw asB (ao dLt (ae 1) (ae 6))) (az (aV 3 (ae 5))
  BF) a9)
  (oB 1 bR (ae 6))))))
  (aW (ae 3))))
noncomputable def cJ:MF:=b9 4 (az (cW (ah bh (aa (ae 0) (aa (ae 1) aj))))
  (az (aV 3 (ah a_ (aa (ae 0) (aa (ae 1) aj))))
  (az (cW (ah aE (aa (ae 2) (aa (cC (.int 0)) (aa (ao bR (gk gS (ae 3) (aa (ah d8 aj) aj)) (cC (.int 1))) aj)))))
  (aW (ah bg (aa (ae 0) (aa (ae 2) (aa (ae 3) aj))))))))
noncomputable def cx:MF:=b9 2 (az (cW (ah bh (aa (ae 0) (aa (ae 1) aj))))
  (aW (ah bg (aa (ae 0) (aa (cC (.int 0)) (aa (ah a_ (aa (ae 0) (aa (ae 1) aj))) aj))))))
noncomputable def cN:MF:=b9 3 (az (cW (ah bh (aa (ae 0) (aa (ae 1) aj))))
  (az (aV 2 (ah a_ (aa (ae 0) (aa (ae 1) aj))))
  (aW (ah bg (aa (ae 0) (aa (ao bR (gk gS (ae 2) (aa (ah d8 aj) aj)) (cC (.int 1))) (aa (ae 2) aj)))))))
noncomputable def dX:MF:=fun ds h=>((b9 2 (az (bV (fY (d_ (aw eZ (cUn (qP "tuple") (ae 0)))) (d_ (aw asB (kh dLe dLe (cC (.int 1)) (ah dJ (aa (ae 0) aj)) (cC (.int 20)))))) (aW (cC (.bl false))) a9)
  (az (eL (bz (ae 0)) (gN 1) (bV (d_ (aw eZ (ah bI (aa (ae 1) (aa (cC (.int 0)) (aa (ao bR (ah dJ (aa (ae 0) aj)) (cC (.int 1))) aj)))))) (aW (cC (.bl false))) a9))
  (aW (ao dEq (ah dJ (aa (ah zK (aa (ae 0) aj)) aj)) (ah dJ (aa (ae 0) aj))))))) ds h).bind (cV h)
noncomputable def b_:MF:=b9 1 (bV (d_ (aw eZ (ah dX (aa (ae 0) aj)))) Bk a9)
noncomputable def cB:MF:=b9 1 (az (cW (ah b_ (aa (ae 0) aj)))
  (aW (ah cT (aa (ae 0) aj))))
noncomputable def cG:MF:=b9 1 (az (cW (ah b_ (aa (ae 0) aj)))
  (aW (ah dE (aa (bu aD (bz (ae 0)) [0] tt1 (ao bR (ao bR (ah dJ (aa (ae 1) aj)) (cC (.int 1))) (ae 0))) aj))))
noncomputable def dg:MF:=fun ds h=>((b9 4 (az (cW (ah aE (aa (ae 0) (aa (cC (.int 1)) (aa (cC (.int 10)) aj)))))
  (az (aV 1 (ah (ki aD) (aa (jV (eS fC (aa (ae 0) aj)) [0] (bz (ah bK (aa (ae 2) (aa (ae 0) aj)))) (ae 1)) aj)))
  (az (aV 2 (bu aD (bz (ae 1)) [0] tt1 (ah aB (aa (ae 1) (aa (ae 0) aj)))))
  (az (aV 3 (ah iZ (aa (ae 2) aj)))
  (aW (ah d8 (aa (ae 3) (aa (ah dE (aa (bu aD (t5 (aa (ae 1) (aa (ae 2) aj))) [3] (unp (aw asB (ao dEq (ae 1) (ae 2)))) (unp (ae 0))) aj)) aj))))))))) ds h).bind (cV h)
noncomputable def nz:MF:=fun ds h=>((b9 18 (az (eL (qp (ao (bQ aD) (ah (eB aD) (aa (ah b8 (aa (ae 0) (aa (cC (.int 0)) aj))) aj)) (dn aD (ae 0) (dR (cC (.int 1))) (dR (cC (.int 2)))))) (gT2 1 2) (az (aV 3 (ah cE (aa (ae 2) aj)))
  (az (aV 4 (ao (bQ aD) (cC (.int 1)) (ah aI (aa (ae 3) (aa (ao dIx (ah (eB aD) (aa (cC (.int 9)) (aa (cC (.int 12)) aj))) (ah yZ (aa (ao dEq (ae 1) (cC (.int 0))) aj))) aj)))))
  (az (uF 5 6 (ah d8 (aa (ah dN (aa (ae 3) (aa (ae 4) aj))) (aa (ah aI (aa (ae 3) (aa (ae 4) aj))) aj))))
  (az (aV 7 (ah dE (aa (bu aD (eS fC (aa (ao bR (ae 4) (cC (.int 1))) aj)) [5] (aw asB (ao (dIn true) (ae 0) (ae 1))) (ae 0)) aj)))
  (az (aV 8 (dn aD (ae 5) de (dR (cC (.int 6)))))
  (az (aV 9 (cC (.int 0)))
  (az (eL (eS fC (aa (ao (bQ aD) (ah dJ (aa (ae 8) aj)) (cC (.int 1))) aj)) (gN 10) (eL (bz (ah bK (aa (ae 4) (aa (ae 10) aj)))) (gN 11) (bV (aw asB (ao dEq (bu aD (bz (ae 11)) [8] (aw asB (ao (dIn true) (ae 0) (ae 1))) (ae 0)) (ah (eB aD) aj))) (aV 9 (ao (bQ aD) (ae 9) (ah aB (aa (ae 4) (aa (ae 11) aj))))) a9)))
  (az (bV (fY (aw asB (ao dNe (ah cD (aa (ae 4) (aa (ae 8) aj))) (ae 9))) (aw asB (ao dNe (ah aB (aa (ae 4) (aa (ae 7) aj))) (ah aB (aa (ae 4) (aa (ae 5) aj)))))) (aW (cC (.bl false))) a9)
  (az (bV (aw asB (ao dNe (ah gi (aa (bu aD (bz (ah bK (aa (ae 4) (aa (ae 6) aj)))) [4] tt1 (ah aB (aa (ae 1) (aa (ae 0) aj)))) aj)) (ah dP (aa (ae 4) (aa (ae 6) aj))))) (aW (cC (.bl false))) a9)
  (az (bV (fY (aw asB (ao dNe (ah fT (aa (ah bT (aa (ae 4) (aa (ae 5) aj))) aj)) (ah d8 (aa (ae 4) (aa (ae 5) aj))))) (aw asB (ao dNe (ah gi (aa (ah bT (aa (ae 4) (aa (ae 5) aj))) aj)) (ae 4)))) (aW (cC (.bl false))) a9)
  (az (aV 12 (ah aB (aa (ae 4) (aa (ae 5) aj))))
  (az (aV 13 (ah aI (aa (ae 3) (aa (ae 12) aj))))
  (az (aV 14 (bu aD (bz (ah d8 (aa (cC (.int 0)) (aa (ae 13) (aa (ah uu (aa (ao (bQ aD) (ae 13) (cC (.int 1))) (aa (ao bR (ae 12) (cC (.int 1))) aj))) (aa (ao bR (ae 12) (cC (.int 1))) aj)))))) [4,5] tt1 (ah cJ (aa (ae 1) (aa (ae 2) (aa (ae 0) aj))))))
  (az (bV (fY (aw asB (ao dNe (ao dIx (ae 14) (cC (.int 0))) (ah cx (aa (ae 4) (aa (ae 5) aj))))) (fY (aw asB (ao dNe (ao dIx (ae 14) (cC (.int 3))) (ah cN (aa (ae 4) (aa (ae 5) aj))))) (aw asB (ao dNe (ae 14) (ah (jm aD) (aa (ae 14) aj)))))) (aW (cC (.bl false))) a9)
  (az (bV (fY (aw asB (ao dNe (ah cB (aa (ao dIx (ae 14) (cC (.int 1))) aj)) (ae 5))) (aw asB (ao dNe (ah cB (aa (ah cG (aa (ao dIx (ae 14) (cC (.int 1))) aj)) aj)) (ae 7)))) (aW (cC (.bl false))) a9)
  (az (bV (aw asB (ao dNe (ah cJ (aa (ae 4) (aa (ae 7) (aa (ao bR (ao bR (ae 12) (cC (.int 1))) (ae 13)) aj)))) (ah cG (aa (ao dIx (ae 14) (cC (.int 1))) aj)))) (aW (cC (.bl false))) a9)
  (az (aV 15 (ao (bQ aD) (cC (.int 1)) (ah aI (aa (ae 3) (aa (cC (.int 8)) aj)))))
  (az (uF 16 17 (ah dg (aa (ae 15) aj)))
  (az (bV (aw asB (ao dNe (bu aD (bz (ae 17)) [15,16] (aw asB (ao dNe (ah aB (aa (ae 1) (aa (ae 0) aj))) (ae 2))) (ae 0)) (ah (eB aD) aj))) (aW (cC (.bl false))) a9)
  (bV (aw asB (ao dGt (ah iZ (aa (bu aD (bz (ah bK (aa (ae 15) (aa (ao qk (ae 15) (cC (.int 2))) aj)))) [15] tt1 (ah aB (aa (ae 1) (aa (ae 0) aj)))) aj)) (ae 16))) (aW (cC (.bl false))) a9)))))))))))))))))))))
  (aW (cC (.bl true))))) ds h).bind (cV h)
noncomputable def aC (i:Nat):Stmt:=Mk.main.body.getD i (.Pass ⟨0,0,0,0⟩)
structure Blt (mg:Str->Option LM):Prop where
 bool:mg "bool" = none
 enumerate:mg "enumerate" = none
 int:mg "int" = none
 isinstance:mg "isinstance" = none
 len:mg "len" = none
 list:mg "list" = none
 max:mg "max" = none
 min:mg "min" = none
 range:mg "range" = none
 set:mg "set" = none
 sorted:mg "sorted" = none
 sum:mg "sum" = none
 tuple:mg "tuple" = none
 zip:mg "zip" = none
section
variable {P:Mc}{w:MU}{K:gV}{mg:Str->Option LM}{base:Heap}{g:GG}
local macro_rules | `($a :: $b) => `(@CQ _ _ _ _ _ _ _ $a $b rfl)
local macro_rules | `($a \/ $b) => `(@Dz _ _ _ _ _ _ _ $a $b)
local macro_rules | `(!$a) => `(@Gh _ _ _ _ _ $a)
local macro_rules | `(-$a) => `(@Hb _ _ _ _ _ _ $a)
local macro_rules | `($a ++ $b) => `(@kB _ _ _ _ _ _ _ _ _ _ _ EF Fd $a $b)
local macro_rules | `($a - $b) => `(@kB _ _ _ _ _ _ _ _ _ _ _ F7 FU $a $b)
local macro_rules | `($a * $b) => `(@kB _ _ _ _ _ _ _ _ _ _ _ FG Fm $a $b)
local macro_rules | `($a / $b) => `(@kB _ _ _ _ _ _ _ _ _ _ _ Ax Ex $a $b)
local macro_rules | `($a % $b) => `(@kB _ _ _ _ _ _ _ _ _ _ _ GP Fp $a $b)
local macro_rules | `($a < $b) => `(@bS _ _ _ _ _ _ _ _ _ _ _ HV Hv $a $b (bP _))
local macro_rules | `($a > $b) => `(@bS _ _ _ _ _ _ _ _ _ _ _ HA Ja $a $b (bP _))
local macro_rules | `($a ^ $b) => `(@IV _ _ _ _ _ _ _ _ _ _ GN IZ $a $b (fun _ _ => rfl))
local macro_rules | `($a >>= $b) => `(@HY _ _ _ _ _ _ $a _ _ (by assumption) rfl (by first | exact Or.inl rfl | exact Or.inr rfl) $b rfl (.inl rfl))
local macro_rules | `(~~~$a) => `(@FI _ _ _ _ _ _ _ $a)
local macro_rules | `(#[$a]) => `(@E3 _ _ _ _ _ _ _ _ $a)
local macro_rules | `(¬$a) => `(dU (i := $a) (by assumption) rfl (by first | exact Or.inl rfl | exact Or.inr rfl))
theorem lH:aF ["_law_script", "_law_k"] ["_law_script", "_law_k"] (ak (aC 48)):=fsc ⟨rfl,rfl,rfl⟩ (by decide +kernel)
theorem kN (D:aG K mg "_law_cell_at" (aC 48)) (T:Blt mg):Has P w K mg base g "_law_cell_at" 1 ["_law_script", "_law_k"] b8:=by
 refine dO D lH (bd2 fun _ _ _ _ _ _ _ _=>rfl) fun nd f cdv A outer s H E hr=>?_
 exact @fh _ _ _ _ _ _ _ _ _ _ (af 1<aS dm dk rfl T.len MG (af 0::ai)) (!-(af 0 ^ af 1)) bj\/!-aq
theorem mB:aF ["_law_cell", "_law_left"] ["_law_cell"] (ak (aC 50)):=fsc ⟨rfl,rfl,rfl⟩ (by decide +kernel)
theorem lC (D:aG K mg "_law_pen_of" (aC 50)) (T:Blt mg):Has P w K mg base g "_law_pen_of" 1 ["_law_cell"] cE:=by
 refine dO D mB (bd1 fun _ _ _ _ _ _ _=>rfl) fun nd f cdv A outer s H E hr=>?_
 exact 1 >>= aS (yH rfl) Ci rfl T.max Pk (af 0::(aq - af 0)::ai)\/!-#[af 1::cq oU AL rfl T.int Pl (@mn _ _ _ _ _ _ _ _ _ _ _ Hu HS (af 1) (@kB _ _ _ _ _ _ _ _ _ _ _ CH Ei aq aq) (bP _)::ai)::af 1 % aq::ai]
theorem qu:aF ["_law_seed"] ["_law_seed"] (ak (aC 49)):=fsc ⟨rfl,rfl,rfl⟩ (by decide +kernel)
theorem nR (D:aG K mg "_law_next" (aC 49)) (T:Blt mg):Has P w K mg base g "_law_next" 1 ["_law_seed"] dQ:=by
 refine dO D qu (bd1 fun _ _ _ _ _ _ _=>rfl) fun nd f cdv A outer s H E hr=>?_
 exact 0 >>= (af 0++aq) % aq\/!-((af 0*af 0++aq*af 0++aq) % aq)
theorem rl:aF ["_law_pen", "_law_many", "_law_found"] ["_law_pen", "_law_many"] (ak (aC 51)):=fsc ⟨rfl,rfl,rfl⟩ (by decide +kernel)
theorem nQ (D:aG K mg "_law_draw" (aC 51)) (T:Blt mg) (eN:Has P w K mg base g "_law_next" 1 ["_law_seed"] dQ):Has P w K mg base g "_law_draw" 2 ["_law_pen", "_law_many"] aI:=by
 refine dO D rl (bd2 fun _ _ _ _ _ _ _ _=>rfl) fun nd f cdv A outer s H E hr=>?_
 exact @fh _ _ _ _ _ _ _ _ _ _ (PW.pt (@EM _ _ _ _ _ _ _ _ _ (@bS _ _ _ _ _ _ _ _ _ _ _ (iN hr.units) k7 (af 0 ^ aq) aq (bP _)) (@CO _ _ _ _ _ _ (af 0 ^ aq > aq)))) (2 >>= af 0 ^ aq % af 1\/wU (af 0 ^ aq / af 1) (af 0) aq set_list uz\/!-af 2) bj\/wU (aY eN hr ((aY eN hr (af 0 ^ aq::ai) (ag ar)++aq)::ai) (ag ar)) (af 0) aq set_list uz\/!-(af 0 ^ aq / aq % af 1)
theorem tR:aF ["_law_pen", "_law_n", "_law_rare"] ["_law_pen", "_law_n"] (ak (aC 52)):=fsc ⟨rfl,rfl,rfl⟩ (by decide +kernel)
theorem qe (D:aG K mg "_law_set" (aC 52)) (T:Blt mg) (bB:Has P w K mg base g "_law_draw" 2 ["_law_pen", "_law_many"] aI):Has P w K mg base g "_law_set" 3 ["_law_pen", "_law_n"] dN:=by
 refine dO D tR (bd2 fun _ _ _ _ _ _ _ _=>rfl) fun nd f cdv A outer s H E hr=>?_
 exact 2 >>= #[#[aq::aq::ai]::#[aq::aq::ai]::#[aq::aq::ai]::ai] ^ aY bB hr (af 0::aq::ai) (ag (ag ar))\/!-cq bO d5 rfl T.tuple Mo (cy (osc:=ak (aC 52)) [0,2] ["_law_place", "_law_pen", "_law_rare"] rfl rfl rfl rfl (by decide +kernel) ⟨by decide +kernel,by decide +kernel,rfl,by decide +kernel,rfl,by decide +kernel⟩ (d9 rfl T.range ((af 1 - aq)::ai)) (fun cl C au av fp=>gv (aY bB hr (af 1::af 2 ^ aq::ai) (ag (ag ar))<af 2 ^ aq)) (fun cl C au av fp=>af 0)::ai)
theorem sh:aF ["thing"] ["thing"] (ak (aC 7)):=fsc ⟨rfl,rfl,rfl⟩ (by decide +kernel)
theorem qF (D:aG K mg "is_whole" (aC 7)) (T:Blt mg):Has P w K mg base g "is_whole" 1 ["thing"] dM:=by
 refine dO D sh (bd1 fun _ _ _ _ _ _ _=>rfl) fun nd f cdv A outer s H E hr=>?_
 exact !-@Am _ _ _ _ _ _ _ _ _ (mT (af 0) rfl T.isinstance rfl T.int Pl) (@zL _ _ _ _ _ _ _ (@Ge _ _ _ _ _ _ (mT (af 0) rfl T.isinstance rfl T.bool PyProof.Rows.boot_bool)))
theorem rD:aF ["thing", "least", "most"] ["thing", "least", "most"] (ak (aC 8)):=fsc ⟨rfl,rfl,rfl⟩ (by decide +kernel)
theorem nX (D:aG K mg "is_within" (aC 8)) (T:Blt mg) (dA:Has P w K mg base g "is_whole" 1 ["thing"] dM):Has P w K mg base g "is_within" 2 ["thing", "least", "most"] bI:=by
 refine dO D rD (bd3 fun _ _ _ _ _ _ _ _ _=>rfl) fun nd f cdv A outer s H E hr=>?_
 exact !-@Am _ _ _ _ _ _ _ _ _ (aY dA hr (af 0::ai) (ag ar)) (@zL _ _ _ _ _ _ _ (AM uc uc uk uk (af 1) (af 0) (af 2)))
theorem kD:aF ["thing", "least", "most"] ["thing", "least", "most"] (ak (aC 9)):=fsc ⟨rfl,rfl,rfl⟩ (by decide +kernel)
theorem jY (D:aG K mg "number_needed" (aC 9)) (T:Blt mg) (bN:Has P w K mg base g "is_within" 2 ["thing", "least", "most"] bI):Has P w K mg base g "number_needed" 3 ["thing", "least", "most"] aE:=by
 refine dO D kD (bd3 fun _ _ _ _ _ _ _ _ _=>rfl) fun nd f cdv A outer s H E hr=>?_
 exact !@fh _ _ _ _ _ _ _ _ _ _ (@fU _ _ _ _ _ _ (@cU _ _ _ _ _ _ eY (aY bN hr (af 0::af 1::af 2::ai) (ag (ag (ag ar)))) (fun _=>rfl))) (!(PS.imp jP fun E σ H ⟨α,env,h,s,w⟩=>w.elim)) bj
theorem kO:aF ["n", "some"] ["n", "some"] (ak (aC 36)):=fsc ⟨rfl,rfl,rfl⟩ (by decide +kernel)
theorem jW (D:aG K mg "places_behind" (aC 36)) (T:Blt mg):Has P w K mg base g "places_behind" 1 ["n", "some"] bU:=by
 refine dO D kO (bd2 fun _ _ _ _ _ _ _ _=>rfl) fun nd f cdv A outer s H E hr=>?_
 exact !-AW rfl rfl T.list rfl T.range (@sA _ _ _ _ _ _ _ _ _ _ (@cU _ _ _ _ _ _ eY (af 1) (fun _=>rfl)) (af 1 ^ @oO _ _ _ _ _ _ _ _ _ kl kK aq++aq) aq::(af 0 - aq)::ai)
theorem mO:aF ["n", "k", "sets", "step"] ["n", "k"] (ak (aC 35)):=fsc ⟨rfl,rfl,rfl⟩ (by decide +kernel)
theorem rM (D:aG K mg "sets_of" (aC 35)) (T:Blt mg){bH:Tok} (aP:mg "MOST_NUMBERS_sets" = some (.int 12 bH)) (ay:Has P w K mg base g "number_needed" 3 ["thing", "least", "most"] aE) (ed:Has P w K mg base g "places_behind" 1 ["n", "some"] bU):Has P w K mg base g "sets_of" 4 ["n", "k"] bK:=by
 refine C8 (dO D mO (bd2 fun _ _ _ _ _ _ _ _=>rfl) fun nd f cdv A outer s H E hr=>?_)
 exact c6 (aY ay hr (af 0::aq::d7 rfl aP::ai) (ag (ag (ag ar))))\/c6 (aY ay hr (af 1::aq::d7 rfl aP::ai) (ag (ag (ag ar))))\/2 >>= #[~~~ai::ai]\/gL MQ rfl (d9 rfl T.range (af 1::ai)) (¬3) dG (!vE (osc:=ak (aC 35)) [0] ["some", "place", "n"] rfl rfl rfl rfl (by decide +kernel) ⟨by decide +kernel,by decide +kernel,rfl,by decide +kernel,by decide +kernel⟩ (@cF _ _ _ _ _ _ (af 2)) (fun cl C au av fp=>⟨PH rfl,rfl⟩) (fun cl C au av fp=>⟨PH rfl,rfl⟩) (fun cl C au av fp=>@cF _ _ _ _ _ _ (aY ed hr (af 2::af 0::ai) (ag (ag ar)))) (fun cl C au av fp=>af 0++~~~(af 1::ai)) (i:=2) mO.nd rfl)\/!-af 2
theorem uH:aF ["n", "thing", "least", "place"] ["n", "thing"] (ak (aC 25)):=fsc ⟨rfl,rfl,rfl⟩ (by decide +kernel)
theorem pM (D:aG K mg "set_good" (aC 25)) (T:Blt mg){bH:Tok} (aP:mg "MOST_NUMBERS_sets" = some (.int 12 bH)) (ay:Has P w K mg base g "number_needed" 3 ["thing", "least", "most"] aE) (bN:Has P w K mg base g "is_within" 2 ["thing", "least", "most"] bI):Has P w K mg base g "set_good" 4 ["n", "thing"] hZ:=by
 refine dO D uH (bd2 fun _ _ _ _ _ _ _ _=>rfl) fun nd f cdv A outer s H E hr=>?_
 exact c6 (aY ay hr (af 0::aq::d7 rfl aP::ai) (ag (ag (ag ar))))\/@fh _ _ _ _ _ _ _ _ _ _ (@fU _ _ _ _ _ _ (@cU _ _ _ _ _ _ eY (mT (af 1) rfl T.isinstance rfl T.tuple Mo) (fun _=>rfl))) (!-fo) bj\/2 >>= aq\/gL MQ rfl (@cF _ _ _ _ _ _ (af 1)) (¬3) dG (@fh _ _ _ _ _ _ _ _ _ _ (@fU _ _ _ _ _ _ (@cU _ _ _ _ _ _ eY (aY bN hr (af 3::af 2::(af 0 - aq)::ai) (ag (ag (ag ar)))) (fun _=>rfl))) (!-fo) bj\/!2 >>= af 3++aq)\/!-fo
theorem oE:aF ["n", "thing"] ["n", "thing"] (ak (aC 26)):=fsc ⟨rfl,rfl,rfl⟩ (by decide +kernel)
theorem ni (D:aG K mg "set_needed" (aC 26)) (T:Blt mg) (hG:Has P w K mg base g "set_good" 4 ["n", "thing"] hZ):Has P w K mg base g "set_needed" 5 ["n", "thing"] bh:=by
 refine dO D oE (bd2 fun _ _ _ _ _ _ _ _=>rfl) fun nd f cdv A outer s H E hr=>?_
 exact !@fh _ _ _ _ _ _ _ _ _ _ (@fU _ _ _ _ _ _ (@cU _ _ _ _ _ _ eY (aY hG hr (af 0::af 1::ai) (ag (ag ar))) (fun _=>rfl))) (!(PS.imp jP fun E σ H ⟨α,env,h,s,w⟩=>w.elim)) bj
theorem sR:aF ["numbers"] ["numbers"] (ak (aC 15)):=fsc ⟨rfl,rfl,rfl⟩ (by decide +kernel)
theorem p6 (D:aG K mg "falls_in" (aC 15)) (T:Blt mg):Has P w K mg base g "falls_in" 1 ["numbers"] cT:=by
 refine dO D sR (bd1 fun _ _ _ _ _ _ _=>rfl) fun nd f cdv A outer s H E hr=>?_
 exact !-cq bO d5 rfl T.tuple Mo (cy (osc:=ak (aC 15)) [0] ["place", "numbers"] rfl rfl rfl rfl (by decide +kernel) ⟨by decide +kernel,by decide +kernel,rfl,by decide +kernel,rfl,by decide +kernel⟩ (d9 rfl T.range ((aS dm dk rfl T.len MG (af 0::ai) - aq)::ai)) (fun cl C au av fp=>gv (af 1 ^ af 0 > af 1 ^ (af 0++aq))) (fun cl C au av fp=>af 0)::ai)
theorem om:aF ["begun"] ["begun"] (ak (aC 19)):=fsc ⟨rfl,rfl,rfl⟩ (by decide +kernel)
theorem mw (D:aG K mg "lower_left" (aC 19)) (T:Blt mg):Has P w K mg base g "lower_left" 1 ["begun"] dv:=by
 refine dO D om (bd1 fun _ _ _ _ _ _ _=>rfl) fun nd f cdv A outer s H E hr=>?_
 exact @fh _ _ _ _ _ _ _ _ _ _ (@bS _ _ _ _ _ _ _ _ _ _ _ (iN hr.units) k7 (aS dm dk rfl T.len MG (af 0::ai)) aq (bP _)) (!-aq) bj\/!-(af 0 ^ @oO _ _ _ _ _ _ _ _ _ kl kK aq - aS dm dk rfl T.len MG (cy (osc:=ak (aC 19)) [0] ["number", "begun"] rfl rfl rfl rfl (by decide +kernel) ⟨by decide +kernel,by decide +kernel,rfl,by decide +kernel,rfl,by decide +kernel⟩ (@cF _ _ _ _ _ _ (af 0)) (fun cl C au av fp=>gv (af 0<af 1 ^ @oO _ _ _ _ _ _ _ _ _ kl kK aq)) (fun cl C au av fp=>af 0)::ai))
theorem nN:aF ["rests", "some", "begun"] ["rests", "some", "begun"] (ak (aC 39)):=fsc ⟨rfl,rfl,rfl⟩ (by decide +kernel)
theorem mZ (D:aG K mg "just_count" (aC 39)) (T:Blt mg) (du:Has P w K mg base g "falls_in" 1 ["numbers"] cT) (fW:Has P w K mg base g "lower_left" 1 ["begun"] dv):Has P w K mg base g "just_count" 2 ["rests", "some", "begun"] aZ:=by
 refine dO D nN (bd3 fun _ _ _ _ _ _ _ _ _=>rfl) fun nd f cdv A outer s H E hr=>?_
 exact @fh _ _ _ _ _ _ _ _ _ _ (@bS _ _ _ _ _ _ _ _ _ _ _ (iN hr.units) k7 (aS dm dk rfl T.len MG (af 2::ai)) aq (bP _)) (!-aS (fF rfl) kf rfl T.sum NI (af 0 ^ @oO _ _ _ _ _ _ _ _ _ kl kK aq::ai)) bj\/@fh _ _ _ _ _ _ _ _ _ _ (@bS _ _ _ _ _ _ _ _ _ _ _ (eh hr.units) fZ (aY du hr (af 2::ai) (ag ar)) (cq bO d5 rfl T.tuple Mo (cy (osc:=ak (aC 39)) [2] ["place", "begun"] rfl rfl rfl rfl (by decide +kernel) ⟨by decide +kernel,by decide +kernel,rfl,by decide +kernel,rfl,by decide +kernel⟩ (@cF _ _ _ _ _ _ (af 1)) (fun cl C au av fp=>gv (af 0<aS dm dk rfl T.len MG (af 1::ai) - aq)) (fun cl C au av fp=>af 0)::ai)) (bP _)) (!-aq) bj\/!-((af 0 ^ (aS dm dk rfl T.len MG (af 0::ai) - aS dm dk rfl T.len MG (af 2::ai))) ^ aY fW hr (af 2::ai) (ag ar))
theorem jD:aF ["n", "some", "rests", "left", "fewer", "falls"] ["n", "some"] (ak (aC 38)):=fsc ⟨rfl,rfl,rfl⟩ (by decide +kernel)
theorem n6 (D:aG K mg "set_rests" (aC 38)) (T:Blt mg):Has P w K mg base g "set_rests" 1 ["n", "some"] di:=by
 obtain⟨f,fd,hm,F⟩:=D
 refine⟨f,fd,Fe (qA (uS F jD (fun cdv A outer s H E hr=>?_))),F.kp,F.binds (fun _ _ _ _ _ _ us hl=>CP hl fun _ _=>rfl),hm,dZ F⟩
 have nd:=jD.nd
 exact 2 >>= #[#[aq::ai]::ai]\/gL MQ rfl (Ca rfl T.range (aq::af 0::ai)) (¬3) dG (4 >>= af 2 ^ @oO _ _ _ _ _ _ _ _ _ kl kK aq\/5 >>= @mn _ _ _ _ _ _ _ _ _ _ _ yr wA (af 0 - aq - af 3) (af 1) (by rfl)\/!c6 (AD PySem.F.slot_list_append PySem.F.type_list_append gH pe (af 2) (cy (osc:=ak (aC 38)) [5,4] ["lower", "falls", "fewer"] rfl rfl rfl rfl (by decide +kernel) ⟨by decide +kernel,by decide +kernel,rfl,by decide +kernel,rfl,by decide +kernel⟩ (d9 rfl T.range ((af 3++aq)::ai)) (fun cl C au av fp=>hW) (fun cl C au av fp=>aS (fF rfl) kf rfl T.sum NI (@sA _ _ _ _ _ _ _ _ _ _ (@cU _ _ _ _ _ _ eY (af 1) (fun _=>rfl)) (fI (af 2) jS (@fw _ _ _ _ _ (af 0))) (fI (af 2) (@fw _ _ _ _ _ (af 0)) jS)::ai))::ai)))\/!-af 2
theorem qm:aF ["n", "some"] ["n", "some"] (ak (aC 27)):=fsc ⟨rfl,rfl,rfl⟩ (by decide +kernel)
theorem n_ (D:aG K mg "just_many" (aC 27)) (T:Blt mg) (aM:Has P w K mg base g "set_needed" 5 ["n", "thing"] bh) (aN:Has P w K mg base g "just_count" 2 ["rests", "some", "begun"] aZ) (cY:Has P w K mg base g "set_rests" 1 ["n", "some"] di):Has P w K mg base g "just_many" 6 ["n", "some"] aB:=by
 refine dO D qm (bd2 fun _ _ _ _ _ _ _ _=>rfl) fun nd f cdv A outer s H E hr=>?_
 exact c6 (aY aM hr (af 0::af 1::ai) (ag (ag ar)))\/!-aY aN hr (aY cY hr (af 0::af 1::ai) (ag (ag ar))::af 1::~~~ai::ai) (ag (ag (ag ar)))
theorem uG:aF ["n", "some", "starts", "ends"] ["n", "some"] (ak (aC 32)):=fsc ⟨rfl,rfl,rfl⟩ (by decide +kernel)
theorem qT (D:aG K mg "sizes_of" (aC 32)) (T:Blt mg) (aM:Has P w K mg base g "set_needed" 5 ["n", "thing"] bh):Has P w K mg base g "sizes_of" 6 ["n", "some"] bT:=by
 refine dO D uG (bd2 fun _ _ _ _ _ _ _ _=>rfl) fun nd f cdv A outer s H E hr=>?_
 exact c6 (aY aM hr (af 0::af 1::ai) (ag (ag ar)))\/2 >>= ~~~(aq::ai)++cq bO d5 rfl T.tuple Mo (cy (osc:=ak (aC 32)) [] ["place"] rfl rfl rfl rfl (by decide +kernel) ⟨by decide +kernel,by decide +kernel,rfl,by decide +kernel,rfl,by decide +kernel⟩ (@cF _ _ _ _ _ _ (af 1)) (fun cl C au av fp=>hW) (fun cl C au av fp=>af 0++aq)::ai)\/3 >>= fI (af 2) (@fw _ _ _ _ _ aq) jS++~~~(af 0::ai)\/!-cq bO d5 rfl T.tuple Mo (uE (osc:=ak (aC 32)) [] ["start", "end"] rfl rfl rfl rfl (by decide +kernel) ⟨by decide +kernel,by decide +kernel,rfl,by decide +kernel,by decide +kernel⟩ (wC rfl T.zip (af 2::af 3::ai)) (fun cl C au av fp=>⟨PH rfl,rfl⟩) (fun cl C au av fp=>⟨PH rfl,rfl⟩) (fun cl C au av fp=>hW) (fun cl C au av fp=>af 1 - af 0)::ai)
theorem sC:aF ["many", "taken", "ways", "index"] ["many", "taken"] (ak (aC 10)):=fsc ⟨rfl,rfl,rfl⟩ (by decide +kernel)
theorem pO (D:aG K mg "ways_out" (aC 10)) (T:Blt mg):Has P w K mg base g "ways_out" 1 ["many", "taken"] eK:=by
 refine dO D sC (bd2 fun _ _ _ _ _ _ _ _=>rfl) fun nd f cdv A outer s H E hr=>?_
 exact 2 >>= aq\/gL MQ rfl (d9 rfl T.range (af 1::ai)) (¬3) dG (!2 >>= af 2*(af 0 - af 3) / (af 3++aq))\/!-af 2
theorem fJ:aF ["n", "some", "many", "left", "size"] ["n", "some"] (ak (aC 28)):=fsc ⟨rfl,rfl,rfl⟩ (by decide +kernel)
theorem lI (D:aG K mg "within_many" (aC 28)) (T:Blt mg) (cQ:Has P w K mg base g "sizes_of" 6 ["n", "some"] bT) (gR:Has P w K mg base g "ways_out" 1 ["many", "taken"] eK):Has P w K mg base g "within_many" 7 ["n", "some"] cD:=by
 refine dO D fJ (bd2 fun _ _ _ _ _ _ _ _=>rfl) fun nd f cdv A outer s H E hr=>?_
 exact 2 >>= aq\/3 >>= af 0\/gL MQ rfl (@cF _ _ _ _ _ _ (aY cQ hr (af 0::af 1::ai) (ag (ag ar)))) (¬4) dG (v_ (i:=2) fJ.nd rfl (by first | exact PH rfl | exact QQ rfl) (aY gR hr (af 3::af 4::ai) (ag (ag ar))) C_ Gs\/!v_ (i:=3) fJ.nd rfl (by first | exact PH rfl | exact QQ rfl) (af 4) Bo zw)\/!-af 2
theorem j7:aF ["n", "k"] ["n", "k"] (ak (aC 46)):=fsc ⟨rfl,rfl,rfl⟩ (by decide +kernel)
theorem ji (D:aG K mg "numbers_needed" (aC 46)) (T:Blt mg){gc:Tok} (dh:mg "MOST_ROWS" = some (.int 30 gc)) (ay:Has P w K mg base g "number_needed" 3 ["thing", "least", "most"] aE):Has P w K mg base g "numbers_needed" 4 ["n", "k"] dw:=by
 refine dO D j7 (bd2 fun _ _ _ _ _ _ _ _=>rfl) fun nd f cdv A outer s H E hr=>?_
 exact c6 (aY ay hr (af 0::aq::d7 rfl dh::ai) (ag (ag (ag ar))))\/!c6 (aY ay hr (af 1::aq::d7 rfl dh::ai) (ag (ag (ag ar))))
theorem oq:aF ["row", "n", "edged"] ["row"] (ak (aC 43)):=fsc ⟨rfl,rfl,rfl⟩ (by decide +kernel)
theorem nq (D:aG K mg "longer_row" (aC 43)) (T:Blt mg):Has P w K mg base g "longer_row" 1 ["row"] dz:=by
 refine dO D oq (bd1 fun _ _ _ _ _ _ _=>rfl) fun nd f cdv A outer s H E hr=>?_
 exact 1 >>= aS dm dk rfl T.len MG (af 0::ai)++aq\/2 >>= #[aq::ai]++af 0++#[aq::ai]\/!-cy (osc:=ak (aC 43)) [2,1] ["k", "edged", "n"] rfl rfl rfl rfl (by decide +kernel) ⟨by decide +kernel,by decide +kernel,rfl,by decide +kernel,rfl,by decide +kernel⟩ (d9 rfl T.range (af 1::ai)) (fun cl C au av fp=>hW) (fun cl C au av fp=>(af 0++aq)*af 1 ^ (af 0++aq)++(af 2 - af 0)*af 1 ^ af 0)
theorem yY:aF ["n", "row"] ["n"] (ak (aC 44)):=fsc ⟨rfl,rfl,rfl⟩ (by decide +kernel)
theorem uL (D:aG K mg "row_of" (aC 44)) (T:Blt mg){gc:Tok} (dh:mg "MOST_ROWS" = some (.int 30 gc)) (ay:Has P w K mg base g "number_needed" 3 ["thing", "least", "most"] aE) (fQ:Has P w K mg base g "longer_row" 1 ["row"] dz):Has P w K mg base g "row_of" 4 ["n"] iu:=by
 refine dO D yY (bd1 fun _ _ _ _ _ _ _=>rfl) fun nd f cdv A outer s H E hr=>?_
 exact c6 (aY ay hr (af 0::aq::d7 rfl dh::ai) (ag (ag (ag ar))))\/1 >>= #[aq::ai]\/@B4 _ _ _ _ _ _ _ _ 64 MQ (aS dm dk rfl T.len MG (af 1::ai)<af 0) (!1 >>= aY fQ hr (af 1::ai) (ag ar))\/!-af 1
theorem tX:aF ["n", "k"] ["n", "k"] (ak (aC 45)):=fsc ⟨rfl,rfl,rfl⟩ (by decide +kernel)
theorem p8 (D:aG K mg "count_of" (aC 45)) (T:Blt mg) (dH:Has P w K mg base g "numbers_needed" 4 ["n", "k"] dw) (jo:Has P w K mg base g "row_of" 4 ["n"] iu):Has P w K mg base g "count_of" 5 ["n", "k"] dP:=by
 refine dO D tX (bd2 fun _ _ _ _ _ _ _ _=>rfl) fun nd f cdv A outer s H E hr=>?_
 exact c6 (aY dH hr (af 0::af 1::ai) (ag (ag ar)))\/!-aS (fF rfl) kf rfl T.sum NI (fI (aY jo hr (af 0::ai) (ag ar)) (@fw _ _ _ _ _ (af 1)) (@fw _ _ _ _ _ (af 1++aq))::ai)
theorem n9:aF ["thing", "size"] ["thing"] (ak (aC 34)):=fsc ⟨rfl,rfl,rfl⟩ (by decide +kernel)
theorem mP (D:aG K mg "sizes_good" (aC 34)) (T:Blt mg){bH:Tok} (aP:mg "MOST_NUMBERS_sets" = some (.int 12 bH)) (dA:Has P w K mg base g "is_whole" 1 ["thing"] dM):Has P w K mg base g "sizes_good" 2 ["thing"] dC:=by
 refine dO D n9 (bd1 fun _ _ _ _ _ _ _=>rfl) fun nd f cdv A outer s H E hr=>?_
 exact @fh _ _ _ _ _ _ _ _ _ _ (PW.pt (@kY _ _ _ _ _ _ _ _ _ (@fU _ _ _ _ _ _ (@cU _ _ _ _ _ _ eY (mT (af 0) rfl T.isinstance rfl T.tuple Mo) (fun _=>rfl))) (@jb _ _ _ _ _ _ (@bS _ _ _ _ _ _ _ _ _ _ _ (iN hr.units) k7 (aS dm dk rfl T.len MG (af 0::ai)) aq (bP _))))) (!-fo) bj\/gL MQ rfl (@cF _ _ _ _ _ _ (af 0)) (¬1) dG (!@fh _ _ _ _ _ _ _ _ _ _ (PW.pt (@kY _ _ _ _ _ _ _ _ _ (@fU _ _ _ _ _ _ (@cU _ _ _ _ _ _ eY (aY dA hr (af 1::ai) (ag ar)) (fun _=>rfl))) (@jb _ _ _ _ _ _ (af 1<aq)))) (!-fo) bj)\/!-@mn _ _ _ _ _ _ _ _ _ _ _ uc uk (aS (fF rfl) kf rfl T.sum NI (af 0::ai)) (d7 rfl aP) (bP _)
theorem kE:aF ["sizes", "some", "n", "size"] ["sizes"] (ak (aC 33)):=fsc ⟨rfl,rfl,rfl⟩ (by decide +kernel)
theorem vL (D:aG K mg "set_by" (aC 33)) (T:Blt mg) (fO:Has P w K mg base g "sizes_good" 2 ["thing"] dC):Has P w K mg base g "set_by" 3 ["sizes"] fT:=by
 obtain⟨f,fd,hm,F⟩:=D
 refine⟨f,fd,qA (uS F kE (fun cdv A outer s H E hr=>?_)),F.kp,F.binds (fun _ _ _ _ _ _ us hl=>IB hl fun _=>rfl),hm,dZ F⟩
 have nd:=kE.nd
 exact @fh _ _ _ _ _ _ _ _ _ _ (@fU _ _ _ _ _ _ (@cU _ _ _ _ _ _ eY (aY fO hr (af 0::ai) (ag ar)) (fun _=>rfl))) (!(PS.imp jP fun E σ H ⟨α,env,h,s,w⟩=>w.elim)) bj\/1 >>= #[ai]\/2 >>= aq\/gL MQ rfl (@cF _ _ _ _ _ _ (af 0)) (¬3) dG (v_ (i:=2) kE.nd rfl (by first | exact PH rfl | exact QQ rfl) (af 3) Fz Ez\/!c6 (AD PySem.F.slot_list_append PySem.F.type_list_append gH pe (af 1) ((af 2 - aq)::ai)))\/!-~~~(af 2::cq bO d5 rfl T.tuple Mo (fI (af 1) jS (@fw _ _ _ _ _ (@oO _ _ _ _ _ _ _ _ _ kl kK aq))::ai)::ai)
theorem ic:aF ["n", "some", "rests"] ["n", "some"] (ak (aC 40)):=fsc ⟨rfl,rfl,rfl⟩ (by decide +kernel)
theorem j_ (D:aG K mg "just_counter" (aC 40)) (T:Blt mg) (MK:Cq K mg base "just_counter" (aC 40)) (cY:Has P w K mg base g "set_rests" 1 ["n", "some"] di):Has P w K mg base g "just_counter" 2 ["n", "some"] a_:=by
 obtain⟨f,fd,hm,F⟩:=D
 obtain⟨c,PT,MK⟩:=MK f fd hm F
 refine⟨f,fd,GB ((cA (aC 40)).take 1) "just_count" "begun" ["rests", "some"] [2,1] F ic MK rfl (fun _=>rfl) (by decide +kernel) (by decide +kernel) rfl ⟨⟨_,_,_,[("rests", _),("some", _)],rfl,rfl⟩,rfl,rfl,rfl,by decide +kernel,rfl,rfl,by decide +kernel,⟨by decide,by decide⟩,fun _ _ _ _ _=>rfl⟩ (fun cdv A outer s H E hr=>?_),F.kp,F.binds (fun _ _ _ _ _ _ us hl=>CP hl fun _ _=>rfl),hm,dZ F⟩
 have nd:=ic.nd
 exact !2 >>= aY cY hr (af 0::af 1::ai) (ag (ag ar))
theorem fL:aF ["n", "begun", "many_with", "longer"] ["n", "begun", "many_with"] (ak (aC 20)):=fsc ⟨rfl,rfl,rfl⟩ (by decide +kernel)
theorem lD (D:aG K mg "longer_ones" (aC 20)) (T:Blt mg) (aN:Has P w K mg base g "just_count" 2 ["rests", "some", "begun"] aZ):Has P w K mg base g "longer_ones" 4 ["n", "begun", "many_with"] cZ:=by
 obtain⟨f,fd,hm,F⟩:=D
 obtain⟨fR,eX,cg,bZ,cf,ck,_⟩:=aN
 have TC:∀x np m,gS x=some (np,m)->∃f fd ps,mg x=some (.ref f)/\dI P w K mg base CX0 2 f fd ps (spM K g np m)/\M5 K (.ref f)=true/\Binds K fd ps []:=by
  intro x np m e
  unfold gS at e
  by_cases aO:x="just_count"
  ·rw[if_pos aO] at e;cases e;rw[aO];exact⟨_,_,_,ck,cg.mono (by decide),bZ,cf⟩
  rw[if_neg aO] at e
  cases e
 refine⟨f,fd,uS F fL (fun cdv A outer s H E hr=>?_),F.kp,F.binds (fun _ _ _ _ _ _ us hl=>C2 hl fun _ _ _=>rfl),hm,dZ F⟩
 have nd:=fL.nd
 exact i_ (osc:=ak (aC 20)) [1] ["number", "begun"] rfl rfl rfl rfl (by decide +kernel) ⟨by decide +kernel,by decide +kernel,rfl,by decide +kernel,rfl,by decide +kernel⟩ (d9 rfl T.range (af 0::ai)) (fun cl C au av fp=>gv (@bS _ _ _ _ _ _ _ _ _ _ _ g_ wA (af 0) (af 1) (by rfl))) (fun cl C au av fp=>af 1++~~~(af 0::ai)) (i:=3) fL.nd rfl\/!-cy (osc:=ak (aC 20)) [2] ["one", "many_with"] rfl rfl rfl rfl (by decide +kernel) ⟨by decide +kernel,by decide +kernel,rfl,by decide +kernel,rfl,by decide +kernel⟩ (@cF _ _ _ _ _ _ (af 3)) (fun cl C au av fp=>gv (jJ TC hr (af 1) (af 0::ai) (ag ar) > aq)) (fun cl C au av fp=>af 0)
theorem dW:aF ["n", "number", "many_with", "begun", "place", "longer", "many"] ["n", "number", "many_with"] (ak (aC 21)):=fsc ⟨rfl,rfl,rfl⟩ (by decide +kernel)
theorem i8 (D:aG K mg "order_numbered" (aC 21)) (T:Blt mg) (eU:Has P w K mg base g "longer_ones" 4 ["n", "begun", "many_with"] cZ) (aN:Has P w K mg base g "just_count" 2 ["rests", "some", "begun"] aZ):Has P w K mg base g "order_numbered" 5 ["n", "number", "many_with"] bg:=by
 obtain⟨f,fd,hm,F⟩:=D
 obtain⟨fR,eX,cg,bZ,cf,ck,_⟩:=aN
 have TC:∀x np m,gS x=some (np,m)->∃f fd ps,mg x=some (.ref f)/\dI P w K mg base CX0 3 f fd ps (spM K g np m)/\M5 K (.ref f)=true/\Binds K fd ps []:=by
  intro x np m e
  unfold gS at e
  by_cases aO:x="just_count"
  ·rw[if_pos aO] at e;cases e;rw[aO];exact⟨_,_,_,ck,cg.mono (by decide),bZ,cf⟩
  rw[if_neg aO] at e
  cases e
 refine⟨f,fd,uS F dW (fun cdv A outer s H E hr=>?_),F.kp,F.binds (fun _ _ _ _ _ _ us hl=>C2 hl fun _ _ _=>rfl),hm,dZ F⟩
 have nd:=dW.nd
 exact 3 >>= ~~~ai\/gL MQ rfl (d9 rfl T.range (af 0::ai)) (¬4) dG (!gL MQ rfl (@cF _ _ _ _ _ _ (aY eU hr (af 0::af 3::af 2::ai) (ag (ag (ag ar))))) (¬5) dG (6 >>= jJ TC hr (af 2) (af 5::ai) (ag ar)\/@fh _ _ _ _ _ _ _ _ _ _ (af 1<af 6) (3 >>= af 5\/!Ie) bj\/!v_ (i:=1) dW.nd rfl (by first | exact PH rfl | exact QQ rfl) (af 6) Bo zw))\/!-af 3
theorem mV:aF ["n", "some", "number", "many_with"] ["n", "some", "number"] (ak (aC 31)):=fsc ⟨rfl,rfl,rfl⟩ (by decide +kernel)
theorem sJ (D:aG K mg "just_at" (aC 31)) (T:Blt mg) (aM:Has P w K mg base g "set_needed" 5 ["n", "thing"] bh) (bc:Has P w K mg base g "just_counter" 2 ["n", "some"] a_) (ay:Has P w K mg base g "number_needed" 3 ["thing", "least", "most"] aE) (aN:Has P w K mg base g "just_count" 2 ["rests", "some", "begun"] aZ) (aX:Has P w K mg base g "order_numbered" 5 ["n", "number", "many_with"] bg):Has P w K mg base g "just_at" 6 ["n", "some", "number"] cJ:=by
 obtain⟨f,fd,hm,F⟩:=D
 obtain⟨fR,eX,cg,bZ,cf,ck,_⟩:=aN
 have TC:∀x np m,gS x=some (np,m)->∃f fd ps,mg x=some (.ref f)/\dI P w K mg base CX0 4 f fd ps (spM K g np m)/\M5 K (.ref f)=true/\Binds K fd ps []:=by
  intro x np m e
  unfold gS at e
  by_cases aO:x="just_count"
  ·rw[if_pos aO] at e;cases e;rw[aO];exact⟨_,_,_,ck,cg.mono (by decide),bZ,cf⟩
  rw[if_neg aO] at e
  cases e
 refine⟨f,fd,uS F mV (fun cdv A outer s H E hr=>?_),F.kp,F.binds (fun _ _ _ _ _ _ us hl=>C2 hl fun _ _ _=>rfl),hm,dZ F⟩
 have nd:=mV.nd
 exact c6 (aY aM hr (af 0::af 1::ai) (ag (ag ar)))\/3 >>= aY bc hr (af 0::af 1::ai) (ag (ag ar))\/c6 (aY ay hr (af 2::aq::(jJ TC hr (af 3) (~~~ai::ai) (ag ar) - aq)::ai) (ag (ag (ag ar))))\/!-aY aX hr (af 0::af 2::af 3::ai) (ag (ag (ag ar)))
theorem ow:aF ["n", "some"] ["n", "some"] (ak (aC 29)):=fsc ⟨rfl,rfl,rfl⟩ (by decide +kernel)
theorem nc (D:aG K mg "first_with" (aC 29)) (T:Blt mg) (aM:Has P w K mg base g "set_needed" 5 ["n", "thing"] bh) (aX:Has P w K mg base g "order_numbered" 5 ["n", "number", "many_with"] bg) (bc:Has P w K mg base g "just_counter" 2 ["n", "some"] a_):Has P w K mg base g "first_with" 6 ["n", "some"] cx:=by
 refine dO D ow (bd2 fun _ _ _ _ _ _ _ _=>rfl) fun nd f cdv A outer s H E hr=>?_
 exact c6 (aY aM hr (af 0::af 1::ai) (ag (ag ar)))\/!-aY aX hr (af 0::aq::aY bc hr (af 0::af 1::ai) (ag (ag ar))::ai) (ag (ag (ag ar)))
theorem jK:aF ["n", "some", "many_with"] ["n", "some"] (ak (aC 30)):=fsc ⟨rfl,rfl,rfl⟩ (by decide +kernel)
theorem oj (D:aG K mg "last_with" (aC 30)) (T:Blt mg) (aM:Has P w K mg base g "set_needed" 5 ["n", "thing"] bh) (bc:Has P w K mg base g "just_counter" 2 ["n", "some"] a_) (aX:Has P w K mg base g "order_numbered" 5 ["n", "number", "many_with"] bg) (aN:Has P w K mg base g "just_count" 2 ["rests", "some", "begun"] aZ):Has P w K mg base g "last_with" 6 ["n", "some"] cN:=by
 obtain⟨f,fd,hm,F⟩:=D
 obtain⟨fR,eX,cg,bZ,cf,ck,_⟩:=aN
 have TC:∀x np m,gS x=some (np,m)->∃f fd ps,mg x=some (.ref f)/\dI P w K mg base CX0 4 f fd ps (spM K g np m)/\M5 K (.ref f)=true/\Binds K fd ps []:=by
  intro x np m e
  unfold gS at e
  by_cases aO:x="just_count"
  ·rw[if_pos aO] at e;cases e;rw[aO];exact⟨_,_,_,ck,cg.mono (by decide),bZ,cf⟩
  rw[if_neg aO] at e
  cases e
 refine⟨f,fd,uS F jK (fun cdv A outer s H E hr=>?_),F.kp,F.binds (fun _ _ _ _ _ _ us hl=>CP hl fun _ _=>rfl),hm,dZ F⟩
 have nd:=jK.nd
 exact c6 (aY aM hr (af 0::af 1::ai) (ag (ag ar)))\/2 >>= aY bc hr (af 0::af 1::ai) (ag (ag ar))\/!-aY aX hr (af 0::(jJ TC hr (af 2) (~~~ai::ai) (ag ar) - aq)::af 2::ai) (ag (ag (ag ar)))
theorem nV:aF ["thing", "number"] ["thing"] (ak (aC 13)):=fsc ⟨rfl,rfl,rfl⟩ (by decide +kernel)
theorem nu (D:aG K mg "order_good" (aC 13)) (T:Blt mg){eC:Tok} (c5:mg "MOST_NUMBERS_orders" = some (.int 20 eC)) (bN:Has P w K mg base g "is_within" 2 ["thing", "least", "most"] bI):Has P w K mg base g "order_good" 3 ["thing"] dX:=by
 refine C8 (dO D nV (bd1 fun _ _ _ _ _ _ _=>rfl) fun nd f cdv A outer s H E hr=>?_)
 exact @fh _ _ _ _ _ _ _ _ _ _ (PW.pt (@kY _ _ _ _ _ _ _ _ _ (@fU _ _ _ _ _ _ (@cU _ _ _ _ _ _ eY (mT (af 0) rfl T.isinstance rfl T.tuple Mo) (fun _=>rfl))) (@jb _ _ _ _ _ _ (@fU _ _ _ _ _ _ (AF uc uc uk uk aq (aS dm dk rfl T.len MG (af 0::ai)) (d7 rfl c5)))))) (!-fo) bj\/gL MQ rfl (@cF _ _ _ _ _ _ (af 0)) (¬1) dG (!@fh _ _ _ _ _ _ _ _ _ _ (@fU _ _ _ _ _ _ (@cU _ _ _ _ _ _ eY (aY bN hr (af 1::aq::(aS dm dk rfl T.len MG (af 0::ai) - aq)::ai) (ag (ag (ag ar)))) (fun _=>rfl))) (!-fo) bj)\/!-@mn _ _ _ _ _ _ _ _ _ _ _ (iN hr.units) k7 (aS dm dk rfl T.len MG (cq (qG rfl) F8 rfl T.set PyProof.Rows.boot_set (af 0::ai)::ai)) (aS dm dk rfl T.len MG (af 0::ai)) (bP _)
theorem lj:aF ["thing"] ["thing"] (ak (aC 14)):=fsc ⟨rfl,rfl,rfl⟩ (by decide +kernel)
theorem kH (D:aG K mg "order_needed" (aC 14)) (T:Blt mg) (fV:Has P w K mg base g "order_good" 3 ["thing"] dX):Has P w K mg base g "order_needed" 4 ["thing"] b_:=by
 refine dO D lj (bd1 fun _ _ _ _ _ _ _=>rfl) fun nd f cdv A outer s H E hr=>?_
 exact !@fh _ _ _ _ _ _ _ _ _ _ (@fU _ _ _ _ _ _ (@cU _ _ _ _ _ _ eY (aY fV hr (af 0::ai) (ag ar)) (fun _=>rfl))) (!(PS.imp jP fun E σ H ⟨α,env,h,s,w⟩=>w.elim)) bj
theorem tS:aF ["order"] ["order"] (ak (aC 16)):=fsc ⟨rfl,rfl,rfl⟩ (by decide +kernel)
theorem rq (D:aG K mg "falls_of" (aC 16)) (T:Blt mg) (bY:Has P w K mg base g "order_needed" 4 ["thing"] b_) (du:Has P w K mg base g "falls_in" 1 ["numbers"] cT):Has P w K mg base g "falls_of" 5 ["order"] cB:=by
 refine dO D tS (bd1 fun _ _ _ _ _ _ _=>rfl) fun nd f cdv A outer s H E hr=>?_
 exact c6 (aY bY hr (af 0::ai) (ag ar))\/!-aY du hr (af 0::ai) (ag ar)
theorem sO:aF ["order"] ["order"] (ak (aC 17)):=fsc ⟨rfl,rfl,rfl⟩ (by decide +kernel)
theorem qq (D:aG K mg "contrary" (aC 17)) (T:Blt mg) (bY:Has P w K mg base g "order_needed" 4 ["thing"] b_):Has P w K mg base g "contrary" 5 ["order"] cG:=by
 refine dO D sO (bd1 fun _ _ _ _ _ _ _=>rfl) fun nd f cdv A outer s H E hr=>?_
 exact c6 (aY bY hr (af 0::ai) (ag ar))\/!-cq bO d5 rfl T.tuple Mo (cy (osc:=ak (aC 17)) [0] ["number", "order"] rfl rfl rfl rfl (by decide +kernel) ⟨by decide +kernel,by decide +kernel,rfl,by decide +kernel,rfl,by decide +kernel⟩ (@cF _ _ _ _ _ _ (af 0)) (fun cl C au av fp=>hW) (fun cl C au av fp=>aS dm dk rfl T.len MG (af 1::ai) - aq - af 0)::ai)
theorem jE:aF ["n", "sets", "counts", "many"] ["n"] (ak (aC 37)):=fsc ⟨rfl,rfl,rfl⟩ (by decide +kernel)
theorem oo (D:aG K mg "most_sets" (aC 37)) (T:Blt mg){h8:Tok} (eV:mg "MOST_COMPARED" = some (.int 10 h8)) (ay:Has P w K mg base g "number_needed" 3 ["thing", "least", "most"] aE) (cO:Has P w K mg base g "sets_of" 4 ["n", "k"] bK) (ba:Has P w K mg base g "just_many" 6 ["n", "some"] aB):Has P w K mg base g "most_sets" 7 ["n"] dg:=by
 refine C8 (dO D jE (bd1 fun _ _ _ _ _ _ _=>rfl) fun nd f cdv A outer s H E hr=>?_)
 exact c6 (aY ay hr (af 0::aq::d7 rfl eV::ai) (ag (ag (ag ar))))\/1 >>= aS (bJ.or (bJ.frz vY) (bJ.frz (vM hr.units))) Aa rfl T.sorted PyProof.Rows.boot_sorted (yf (osc:=ak (aC 37)) [0] ["k", "some", "n"] rfl rfl rfl (by decide +kernel) ⟨by decide +kernel,by decide +kernel,rfl,by decide +kernel,by decide +kernel⟩ (d9 rfl T.range (af 0::ai)) (fun cl C au av fp=>⟨PH rfl,rfl⟩) (fun cl C au av fp=>⟨PH rfl,rfl⟩) (fun cl C au av fp=>@cF _ _ _ _ _ _ (aY cO hr (af 2::af 0::ai) (ag (ag ar)))) (fun cl C au av fp=>af 1)::ai)\/i_ (osc:=ak (aC 37)) [0] ["some", "n"] rfl rfl rfl rfl (by decide +kernel) ⟨by decide +kernel,by decide +kernel,rfl,by decide +kernel,rfl,by decide +kernel⟩ (@cF _ _ _ _ _ _ (af 1)) (fun cl C au av fp=>hW) (fun cl C au av fp=>aY ba hr (af 1::af 0::ai) (ag (ag ar))) (i:=2) jE.nd rfl\/3 >>= aS (oI rfl) xF rfl T.max Pk (af 2::ai)\/!-~~~(af 3::cq bO d5 rfl T.tuple Mo (uE (osc:=ak (aC 37)) [3] ["some", "count", "many"] rfl rfl rfl rfl (by decide +kernel) ⟨by decide +kernel,by decide +kernel,rfl,by decide +kernel,by decide +kernel⟩ (wC rfl T.zip (af 1::af 2::ai)) (fun cl C au av fp=>⟨PH rfl,rfl⟩) (fun cl C au av fp=>⟨PH rfl,rfl⟩) (fun cl C au av fp=>gv (@bS _ _ _ _ _ _ _ _ _ _ _ (iN hr.units) k7 (af 1) (af 2) (bP _))) (fun cl C au av fp=>af 0)::ai)::ai)
theorem rf:aF ["_law_script", "_law_at", "_law_cell", "_law_pen", "_law_n", "_law_some", "_law_k", "_law_rest", "_law_few", "_law_within", "_law_size", "_law_one", "_law_many", "_law_number", "_law_found", "_law_small", "_law_most", "_law_sets"] ["_law_script"] (ak (aC 53)):=fsc ⟨rfl,rfl,rfl⟩ (by decide +kernel)
theorem Cn (D:aG K mg "law" (aC 53)) (T:Blt mg) (eH:Has P w K mg base g "_law_cell_at" 1 ["_law_script", "_law_k"] b8) (e_:Has P w K mg base g "_law_pen_of" 1 ["_law_cell"] cE) (bB:Has P w K mg base g "_law_draw" 2 ["_law_pen", "_law_many"] aI) (gQ:Has P w K mg base g "_law_set" 3 ["_law_pen", "_law_n"] dN) (cO:Has P w K mg base g "sets_of" 4 ["n", "k"] bK) (ba:Has P w K mg base g "just_many" 6 ["n", "some"] aB) (fm:Has P w K mg base g "within_many" 7 ["n", "some"] cD) (gX:Has P w K mg base g "count_of" 5 ["n", "k"] dP) (js:Has P w K mg base g "set_by" 3 ["sizes"] fT) (cQ:Has P w K mg base g "sizes_of" 6 ["n", "some"] bT) (f9:Has P w K mg base g "just_at" 6 ["n", "some", "number"] cJ) (fS:Has P w K mg base g "first_with" 6 ["n", "some"] cx) (gu:Has P w K mg base g "last_with" 6 ["n", "some"] cN) (fD:Has P w K mg base g "falls_of" 5 ["order"] cB) (fA:Has P w K mg base g "contrary" 5 ["order"] cG) (gh:Has P w K mg base g "most_sets" 7 ["n"] dg):Has P w K mg base g "law" 8 ["_law_script"] nz:=by
 refine C8 (dO D rf (bd1 fun _ _ _ _ _ _ _=>rfl) fun nd f cdv A outer s H E hr=>?_)
 exact gL MQ rfl (BV rfl T.enumerate (#[aY eH hr (af 0::aq::ai) (ag (ag ar))::ai]++fI (af 0) (@fw _ _ _ _ _ aq) (@fw _ _ _ _ _ aq))) (uP rfl (gJ (¬1) (gJ (¬2) qz))) AE (3 >>= aY e_ hr (af 2::ai) (ag ar)\/4 >>= aq++aY bB hr (af 3::#[aq::aq::ai] ^ cq oU AL rfl T.int Pl (@mn _ _ _ _ _ _ _ _ _ _ _ (iN hr.units) k7 (af 1) aq (bP _)::ai)::ai) (ag (ag ar))\/DU (i:=5) (j:=6) rfl rf.nd rfl rfl (~~~(aY gQ hr (af 3::af 4::ai) (ag (ag ar))::aY bB hr (af 3::af 4::ai) (ag (ag ar))::ai))\/7 >>= cq bO d5 rfl T.tuple Mo (cy (osc:=ak (aC 53)) [5] ["_law_place", "_law_some"] rfl rfl rfl rfl (by decide +kernel) ⟨by decide +kernel,by decide +kernel,rfl,by decide +kernel,rfl,by decide +kernel⟩ (d9 rfl T.range ((af 4 - aq)::ai)) (fun cl C au av fp=>gv (@bS _ _ _ _ _ _ _ _ _ _ _ g_ wA (af 0) (af 1) (by rfl))) (fun cl C au av fp=>af 0)::ai)\/8 >>= fI (af 5) jS (@fw _ _ _ _ _ aq)\/9 >>= aq\/gL MQ rfl (d9 rfl T.range ((aS dm dk rfl T.len MG (af 8::ai)++aq)::ai)) (¬10) dG (!gL MQ rfl (@cF _ _ _ _ _ _ (aY cO hr (af 4::af 10::ai) (ag (ag ar)))) (¬11) dG (!@fh _ _ _ _ _ _ _ _ _ _ (@bS _ _ _ _ _ _ _ _ _ _ _ (iN hr.units) k7 (cy (osc:=ak (aC 53)) [8] ["_law_place", "_law_few"] rfl rfl rfl rfl (by decide +kernel) ⟨by decide +kernel,by decide +kernel,rfl,by decide +kernel,rfl,by decide +kernel⟩ (@cF _ _ _ _ _ _ (af 11)) (fun cl C au av fp=>gv (@bS _ _ _ _ _ _ _ _ _ _ _ g_ wA (af 0) (af 1) (by rfl))) (fun cl C au av fp=>af 0)) (#[ai]) (bP _)) (!9 >>= af 9++aY ba hr (af 4::af 11::ai) (ag (ag ar))) bj))\/@fh _ _ _ _ _ _ _ _ _ _ (PW.pt (@kY _ _ _ _ _ _ _ _ _ (@bS _ _ _ _ _ _ _ _ _ _ _ (eh hr.units) fZ (aY fm hr (af 4::af 8::ai) (ag (ag ar))) (af 9) (bP _)) (@jb _ _ _ _ _ _ (@bS _ _ _ _ _ _ _ _ _ _ _ (eh hr.units) fZ (aY ba hr (af 4::af 7::ai) (ag (ag ar))) (aY ba hr (af 4::af 5::ai) (ag (ag ar))) (bP _))))) (!-fo) bj\/@fh _ _ _ _ _ _ _ _ _ _ (@bS _ _ _ _ _ _ _ _ _ _ _ (eh hr.units) fZ (aS (fF rfl) kf rfl T.sum NI (cy (osc:=ak (aC 53)) [4] ["_law_one", "_law_n"] rfl rfl rfl rfl (by decide +kernel) ⟨by decide +kernel,by decide +kernel,rfl,by decide +kernel,rfl,by decide +kernel⟩ (@cF _ _ _ _ _ _ (aY cO hr (af 4::af 6::ai) (ag (ag ar)))) (fun cl C au av fp=>hW) (fun cl C au av fp=>aY ba hr (af 1::af 0::ai) (ag (ag ar)))::ai)) (aY gX hr (af 4::af 6::ai) (ag (ag ar))) (bP _)) (!-fo) bj\/@fh _ _ _ _ _ _ _ _ _ _ (PW.pt (@kY _ _ _ _ _ _ _ _ _ (@bS _ _ _ _ _ _ _ _ _ _ _ (eh hr.units) fZ (aY js hr (aY cQ hr (af 4::af 5::ai) (ag (ag ar))::ai) (ag ar)) (~~~(af 4::af 5::ai)) (bP _)) (@jb _ _ _ _ _ _ (@bS _ _ _ _ _ _ _ _ _ _ _ (eh hr.units) fZ (aS (fF rfl) kf rfl T.sum NI (aY cQ hr (af 4::af 5::ai) (ag (ag ar))::ai)) (af 4) (bP _))))) (!-fo) bj\/12 >>= aY ba hr (af 4::af 5::ai) (ag (ag ar))\/13 >>= aY bB hr (af 3::af 12::ai) (ag (ag ar))\/i_ (osc:=ak (aC 53)) [4,5] ["_law_one", "_law_n", "_law_some"] rfl rfl rfl rfl (by decide +kernel) ⟨by decide +kernel,by decide +kernel,rfl,by decide +kernel,rfl,by decide +kernel⟩ (@cF _ _ _ _ _ _ (~~~(aq::af 13::aS (zj rfl) CF rfl T.min PyProof.Rows.boot_min ((af 13++aq)::(af 12 - aq)::ai)::(af 12 - aq)::ai))) (fun cl C au av fp=>hW) (fun cl C au av fp=>aY f9 hr (af 1::af 2::af 0::ai) (ag (ag (ag ar)))) (i:=14) rf.nd rfl\/@fh _ _ _ _ _ _ _ _ _ _ (PW.pt (@kY _ _ _ _ _ _ _ _ _ (@bS _ _ _ _ _ _ _ _ _ _ _ (eh hr.units) fZ (af 14 ^ aq) (aY fS hr (af 4::af 5::ai) (ag (ag ar))) (bP _)) (@kY _ _ _ _ _ _ _ _ _ (@bS _ _ _ _ _ _ _ _ _ _ _ (eh hr.units) fZ (af 14 ^ aq) (aY gu hr (af 4::af 5::ai) (ag (ag ar))) (bP _)) (@jb _ _ _ _ _ _ (@bS _ _ _ _ _ _ _ _ _ _ _ (eh hr.units) fZ (af 14) (aS (bJ.frz vP) Bj rfl T.sorted PyProof.Rows.boot_sorted (af 14::ai)) (bP _)))))) (!-fo) bj\/@fh _ _ _ _ _ _ _ _ _ _ (PW.pt (@kY _ _ _ _ _ _ _ _ _ (@bS _ _ _ _ _ _ _ _ _ _ _ (eh hr.units) fZ (aY fD hr (af 14 ^ aq::ai) (ag ar)) (af 5) (bP _)) (@jb _ _ _ _ _ _ (@bS _ _ _ _ _ _ _ _ _ _ _ (eh hr.units) fZ (aY fD hr (aY fA hr (af 14 ^ aq::ai) (ag ar)::ai) (ag ar)) (af 7) (bP _))))) (!-fo) bj\/@fh _ _ _ _ _ _ _ _ _ _ (@bS _ _ _ _ _ _ _ _ _ _ _ (eh hr.units) fZ (aY f9 hr (af 4::af 7::(af 12 - aq - af 13)::ai) (ag (ag (ag ar)))) (aY fA hr (af 14 ^ aq::ai) (ag ar)) (bP _)) (!-fo) bj\/15 >>= aq++aY bB hr (af 3::aq::ai) (ag (ag ar))\/DU (i:=16) (j:=17) rfl rf.nd rfl rfl (aY gh hr (af 15::ai) (ag ar))\/@fh _ _ _ _ _ _ _ _ _ _ (@bS _ _ _ _ _ _ _ _ _ _ _ (eh hr.units) fZ (cy (osc:=ak (aC 53)) [15,16] ["_law_one", "_law_small", "_law_most"] rfl rfl rfl rfl (by decide +kernel) ⟨by decide +kernel,by decide +kernel,rfl,by decide +kernel,rfl,by decide +kernel⟩ (@cF _ _ _ _ _ _ (af 17)) (fun cl C au av fp=>gv (@bS _ _ _ _ _ _ _ _ _ _ _ (eh hr.units) fZ (aY ba hr (af 1::af 0::ai) (ag (ag ar))) (af 2) (bP _))) (fun cl C au av fp=>af 0)) (#[ai]) (bP _)) (!-fo) bj\/!@fh _ _ _ _ _ _ _ _ _ _ (aS (oI rfl) xF rfl T.max Pk (cy (osc:=ak (aC 53)) [15] ["_law_one", "_law_small"] rfl rfl rfl rfl (by decide +kernel) ⟨by decide +kernel,by decide +kernel,rfl,by decide +kernel,rfl,by decide +kernel⟩ (@cF _ _ _ _ _ _ (aY cO hr (af 15::af 15 / aq::ai) (ag (ag ar)))) (fun cl C au av fp=>hW) (fun cl C au av fp=>aY ba hr (af 1::af 0::ai) (ag (ag ar)))::ai) > af 16) (!-fo) bj)\/!-fo
end
structure Text (K:gV) (ts:List Addr):Prop where
 mj:bA K "_law_cell_at" (aC 48)
 og:bA K "_law_pen_of" (aC 50)
 t4:bA K "_law_next" (aC 49)
 ue:bA K "_law_draw" (aC 51)
 vg:bA K "_law_set" (aC 52)
 vv:bA K "is_whole" (aC 7)
 rW:bA K "is_within" (aC 8)
 lu:bA K "number_needed" (aC 9)
 lG:bA K "places_behind" (aC 36)
 yI:bA K "sets_of" (aC 35)
 uO:bA K "set_good" (aC 25)
 qB:bA K "set_needed" (aC 26)
 vD:bA K "falls_in" (aC 15)
 rA:bA K "lower_left" (aC 19)
 qZ:bA K "just_count" (aC 39)
 rN:bA K "set_rests" (aC 38)
 r_:bA K "just_many" (aC 27)
 vV:bA K "sizes_of" (aC 32)
 uX:bA K "ways_out" (aC 10)
 oz:bA K "within_many" (aC 28)
 kA:bA K "numbers_needed" (aC 46)
 pY:bA K "longer_row" (aC 43)
 Av:bA K "row_of" (aC 44)
 uZ:bA K "count_of" (aC 45)
 qr:bA K "sizes_good" (aC 34)
 zZ:bA K "set_by" (aC 33)
 l8:bA K "just_counter" (aC 40)
 nO:bA K "longer_ones" (aC 20)
 ko:bA K "order_numbered" (aC 21)
 ze:bA K "just_at" (aC 31)
 rC:bA K "first_with" (aC 29)
 uB:bA K "last_with" (aC 30)
 qY:bA K "order_good" (aC 13)
 nA:bA K "order_needed" (aC 14)
 uJ:bA K "falls_of" (aC 16)
 vj:bA K "contrary" (aC 17)
 sU:bA K "most_sets" (aC 37)
 G6:bA K "law" (aC 53)
 GL:Mz K mainGlobals "bool" = some none
 tN:Mz K mainGlobals "enumerate" = some none
 HL:Mz K mainGlobals "int" = some none
 qj:Mz K mainGlobals "isinstance" = some none
 HR:Mz K mainGlobals "len" = some none
 GO:Mz K mainGlobals "list" = some none
 IP:Mz K mainGlobals "max" = some none
 HW:Mz K mainGlobals "min" = some none
 DI:Mz K mainGlobals "range" = some none
 Ib:Mz K mainGlobals "set" = some none
 zV:Mz K mainGlobals "sorted" = some none
 GX:Mz K mainGlobals "sum" = some none
 De:Mz K mainGlobals "tuple" = some none
 IL:Mz K mainGlobals "zip" = some none
 eW:∃t,Mz K mainGlobals "MOST_COMPARED" = some (some (Ol 10 t))
 c7:∃t,Mz K mainGlobals "MOST_NUMBERS_orders" = some (some (Ol 20 t))
 dF:∃t,Mz K mainGlobals "MOST_NUMBERS_sets" = some (some (Ol 12 t))
 iE:∃t,Mz K mainGlobals "MOST_ROWS" = some (some (Ol 30 t))
 a_:Eu K ts "just_counter" (aC 40)
theorem all_mk {P:Mc}{w:MU}{K:gV}{h:Heap}{mg:Str->Option LM}{fa:Addr} (X:K.In h) (G:h.Ns mainGlobals mg) (hfa:mg "law" = some (.ref fa)){ts:List Addr} (hU:mkU K=true) (t:Text K ts) :
  ∃fd:Pf,(∀(s:LP) (v:LM),Q3 s fd ⟨[v],[]⟩ [("_law_script", v)])/\∀base:Heap,K.In base->base.Ns mainGlobals mg->(∀P∈ts,base.BuiltinsAt mg P)->dI P w K mg base CX0 8 fa fd ["_law_script"] (spM K (gOf mg) 1 nz):=by
 have T:Blt mg:=⟨Mw X G t.GL,Mw X G t.tN,Mw X G t.HL,Mw X G t.qj,Mw X G t.HR,Mw X G t.GO,Mw X G t.IP,Mw X G t.HW,Mw X G t.DI,Mw X G t.Ib,Mw X G t.zV,Mw X G t.GX,Mw X G t.De,Mw X G t.IL⟩
 obtain⟨h8,eW⟩:=t.eW
 have eV:=OZ X G eW
 obtain⟨eC,c7⟩:=t.c7
 have c5:=OZ X G c7
 obtain⟨bH,dF⟩:=t.dF
 have aP:=OZ X G dF
 obtain⟨gc,iE⟩:=t.iE
 have dh:=OZ X G iE
 have my:=aG.of X G t.mj
 have nS:=aG.of X G t.og
 have rY:=aG.of X G t.t4
 have sv:=aG.of X G t.ue
 have vk:=aG.of X G t.vg
 have vT:=aG.of X G t.vv
 have tF:=aG.of X G t.rW
 have lB:=aG.of X G t.lu
 have lF:=aG.of X G t.lG
 have yP:=aG.of X G t.yI
 have vN:=aG.of X G t.uO
 have pQ:=aG.of X G t.qB
 have uN:=aG.of X G t.vD
 have qc:=aG.of X G t.rA
 have pU:=aG.of X G t.qZ
 have tB:=aG.of X G t.rN
 have sG:=aG.of X G t.r_
 have vh:=aG.of X G t.vV
 have uY:=aG.of X G t.uX
 have oA:=aG.of X G t.oz
 have kC:=aG.of X G t.kA
 have qo:=aG.of X G t.pY
 have zI:=aG.of X G t.Av
 have uU:=aG.of X G t.uZ
 have pX:=aG.of X G t.qr
 have Ah:=aG.of X G t.zZ
 have lY:=aG.of X G t.l8
 have oh:=aG.of X G t.nO
 have km:=aG.of X G t.ko
 have yo:=aG.of X G t.ze
 have pT:=aG.of X G t.rC
 have tK:=aG.of X G t.uB
 have qx:=aG.of X G t.qY
 have nK:=aG.of X G t.nA
 have v9:=aG.of X G t.uJ
 have vf:=aG.of X G t.vj
 have uf:=aG.of X G t.sU
 have G5:=aG.of X G t.G6
 obtain⟨f,fd,hm,F⟩:=G5
 have e:=hfa.symm.trans hm
 cases e
 refine⟨fd,?_,fun base _ _ hBA=>?_⟩
 ·obtain⟨oc,od,kV,doc,pm,an,cdv,ct,osl,rfl,lk,hcd⟩:=F.ex
  exact fun s v=>.of_eq rfl
 ·have eH:=kN (P:=P) (w:=w) (base:=base) (g:=gOf mg) my T
  have e_:=lC (P:=P) (w:=w) (base:=base) (g:=gOf mg) nS T
  have eN:=nR (P:=P) (w:=w) (base:=base) (g:=gOf mg) rY T
  have bB:=nQ (P:=P) (w:=w) (base:=base) (g:=gOf mg) sv T eN
  have gQ:=qe (P:=P) (w:=w) (base:=base) (g:=gOf mg) vk T bB
  have dA:=qF (P:=P) (w:=w) (base:=base) (g:=gOf mg) vT T
  have bN:=nX (P:=P) (w:=w) (base:=base) (g:=gOf mg) tF T dA
  have ay:=jY (P:=P) (w:=w) (base:=base) (g:=gOf mg) lB T bN
  have ed:=jW (P:=P) (w:=w) (base:=base) (g:=gOf mg) lF T
  have cO:=rM (P:=P) (w:=w) (base:=base) (g:=gOf mg) yP T aP ay ed
  have hG:=pM (P:=P) (w:=w) (base:=base) (g:=gOf mg) vN T aP ay bN
  have aM:=ni (P:=P) (w:=w) (base:=base) (g:=gOf mg) pQ T hG
  have du:=p6 (P:=P) (w:=w) (base:=base) (g:=gOf mg) uN T
  have fW:=mw (P:=P) (w:=w) (base:=base) (g:=gOf mg) qc T
  have aN:=mZ (P:=P) (w:=w) (base:=base) (g:=gOf mg) pU T du fW
  have cY:=n6 (P:=P) (w:=w) (base:=base) (g:=gOf mg) tB T
  have ba:=n_ (P:=P) (w:=w) (base:=base) (g:=gOf mg) sG T aM aN cY
  have cQ:=qT (P:=P) (w:=w) (base:=base) (g:=gOf mg) vh T aM
  have gR:=pO (P:=P) (w:=w) (base:=base) (g:=gOf mg) uY T
  have fm:=lI (P:=P) (w:=w) (base:=base) (g:=gOf mg) oA T cQ gR
  have dH:=ji (P:=P) (w:=w) (base:=base) (g:=gOf mg) kC T dh ay
  have fQ:=nq (P:=P) (w:=w) (base:=base) (g:=gOf mg) qo T
  have jo:=uL (P:=P) (w:=w) (base:=base) (g:=gOf mg) zI T dh ay fQ
  have gX:=p8 (P:=P) (w:=w) (base:=base) (g:=gOf mg) uU T dH jo
  have fO:=mP (P:=P) (w:=w) (base:=base) (g:=gOf mg) pX T aP dA
  have js:=vL (P:=P) (w:=w) (base:=base) (g:=gOf mg) Ah T fO
  have bc:=j_ (P:=P) (w:=w) (base:=base) (g:=gOf mg) lY T (Cq.of X G hBA hU t.a_) cY
  have eU:=lD (P:=P) (w:=w) (base:=base) (g:=gOf mg) oh T aN
  have aX:=i8 (P:=P) (w:=w) (base:=base) (g:=gOf mg) km T eU aN
  have f9:=sJ (P:=P) (w:=w) (base:=base) (g:=gOf mg) yo T aM bc ay aN aX
  have fS:=nc (P:=P) (w:=w) (base:=base) (g:=gOf mg) pT T aM aX bc
  have gu:=oj (P:=P) (w:=w) (base:=base) (g:=gOf mg) tK T aM bc aX aN
  have fV:=nu (P:=P) (w:=w) (base:=base) (g:=gOf mg) qx T c5 bN
  have bY:=kH (P:=P) (w:=w) (base:=base) (g:=gOf mg) nK T fV
  have fD:=rq (P:=P) (w:=w) (base:=base) (g:=gOf mg) v9 T bY du
  have fA:=qq (P:=P) (w:=w) (base:=base) (g:=gOf mg) vf T bY
  have gh:=oo (P:=P) (w:=w) (base:=base) (g:=gOf mg) uf T eV ay cO ba
  have Dx:=Cn (P:=P) (w:=w) (base:=base) (g:=gOf mg) ⟨_,_,hm,F⟩ T eH e_ bB gQ cO ba fm gX js cQ f9 fS gu fD fA gh
  exact Ep F hm Dx
theorem walk {l:PySem.W.OpenLaw}{q:Mc}{loose:List Str}{XP:(Str->Option LM)->Heap->Prop}{YP:MU->Heap->Prop}{d:DefRec}{K:Params->gV}{ts:List Addr} (hn:l.most=some 63) (hdf:d.params.defaults=[])
  (hY:∀(w:MU) (h:Heap),YP w h->(K w.params).In h) (hT:∀(w:MU) (h:Heap),YP w h->∀P∈ts,h.get? P=some (OM #[])) (hI:∀P,GD (K P) ts=true)
  (ok:∀ns:List Int,ns.length<=63->∃h,nz [.scr (ns.map D.int)] []=.ok (.bl true) h)
  (F:∀(w:MU) (mg:Str->Option LM) (fa:Addr) (h:Heap),(K w.params).In h->h.Ns mainGlobals mg->mg d.name=some (.ref fa) →
   ∃fd:Pf,(∀(s:LP) (u:LM),Q3 s fd ⟨[u],[]⟩ [("_law_script", u)])/\∀base:Heap,(K w.params).In base->base.Ns mainGlobals mg->(∀P∈ts,base.BuiltinsAt mg P)->dI l.prog w (K w.params) mg base CX0 8 fa fd ["_law_script"] (spM (K w.params) (gOf mg) 1 nz)) :
  PySem.W.WalkO q loose XP YP l.row.toRowW d [] (fun f vs=>Rf f vs):=
 CY (k:=8) hn hdf ⟨rfl,by decide,by decide,rfl⟩ hY hT hI ok F
theorem eG (h1:-(10 ^ 30)<=i) (h2:i<=10 ^ 30):sml i=true:=qV (L0 (show i.natAbs<=10 ^ 30 by lia) (by lia))
theorem A2 (e:aH h n=some ds):n<h.length:=by
 unfold aH at e
 grind
theorem xC (e:aH h n=some ds):aH (h.set n (.lst es)) n=some es:=by
 unfold aH;rw[O1 (A2 e)]
theorem CD (e:aH h n=some ds):aH (h++t) n=some ds:=by
 have:=A2 e
 unfold aH at e ⊢;grind
structure Pen where
 a:Int
 b:Int
 s:Int
noncomputable abbrev gO (p:Pen):List D:=[.int p.a,.int p.b,.int p.s]
noncomputable def nxt (x:Int):Int:=((x+7919) % 2147483647*((x+7919) % 2147483647)+48271*((x+7919) % 2147483647)+12345) % 2147483629
noncomputable def eF (p:Pen) (m:Int):Int:=if p.b=1/\0<p.a then p.a % m else nxt (nxt p.s+7) / 64 % m
noncomputable def h_ (p:Pen) (m:Int):Pen:=if p.b=1/\0<p.a then ⟨p.a / m,p.b,p.s⟩ else ⟨p.a,p.b,nxt (nxt p.s+7)⟩
theorem wb (p) (h:0<m):0<=eF p m:=by unfold eF;split<;>exact Int.emod_nonneg _ (by lia)
theorem tV (p) (h:0<m):eF p m<m:=by unfold eF;split<;>exact Int.emod_lt_of_pos _ h
@[simp] theorem JO {x:Int}{h:Hh}:dQ [.int x] h=.ok (.int (nxt x)) h:=by
 have h1:0<=(x+7919) % 2147483647:=Int.emod_nonneg _ (by decide)
 have h2:(x+7919) % 2147483647<2147483647:=Int.emod_lt_of_pos _ (by decide)
 have s1:sml ((x+7919) % 2147483647)=true:=eG (by lia) (by lia)
 have s2:sml 48271=true:=by decide +kernel
 simp[dQ,bq,s1,s2,nxt]
theorem Eg {p:Pen}{m:Int}{h:Hh}{n:Nat} (e:aH h n=some (gO p)) (hm:0<m) (hm2:m<=10 ^ 20):aI [.ref n,.int m] h=.ok (.int (eF p m)) (h.set n (.lst (gO (h_ p m)))):=by
 have s1:sml m=true:=eG (by lia) (by lia)
 have s2:sml 64=true:=by decide +kernel
 have i2:∀(x y z:Int) (h:Hh),ixK [D.int x,.int y,.int z] 2 h=.ok (.int z) h:=fun _ _ _ _=>rfl
 have n0:ixN (gO p).length 0=some 0:=rfl
 have n2:ixN (gO p).length 2=some 2:=rfl
 by_cases c:p.b=1
 ·by_cases c2:0<p.a
  ·simp[aI,bq,pG e,c,c2,hm,s1,qE e n0,eF,h_]
  ·simp[aI,bq,pG e,c,c2,i2,qE e n2,pG (xC e),s1,s2,hm,eF,h_]
 ·simp[aI,bq,pG e,c,i2,qE e n2,pG (xC e),s1,s2,hm,eF,h_]
@[simp] theorem gY {h t:Hh} (hm:0<m/\m<=10 ^ 20):aI [.ref h.length,.int m] (h++.lst (gO p)::t)=.ok (.int (eF p m)) (h++.lst (gO (h_ p m))::t):=by
 rw[Eg f_ hm.1 hm.2,pN]
noncomputable def wZ (c:Int):Pen:=⟨max c (0 - c),if max c (0 - c) ≥ 10 ^ 18 then 1 else 0,max c (0 - c) % 1000003⟩
@[simp] theorem Lj {c:Int}{h:Hh}:cE [.int c] h=.ok (.ref h.length) (h++[.lst (gO (wZ c))]):=by
 have s1:sml 10=true:=by decide +kernel
 simp[cE,bq,s1,wZ]
@[simp] theorem JH {ns:List Int}{h:Hh}:b8 [.scr (ns.map D.int),.int 0] h=.ok (.int (ns.headD 0)) h:=by
 cases ns with
 | nil=>simp[b8,bq]
 | cons c r=>simp[b8,bq]
@[simp] theorem Jo {i:Int}{h:Hh}:dM [.int i] h=.ok (.bl true) h:=by rfl
@[simp] theorem Ia {i a b:Int}{h:Hh}:bI [.int i,.int a,.int b] h=.ok (.bl (decide (a<=i/\i<=b))) h:=by
 by_cases z:a<=i<;>simp[bI,bq,z]
@[simp] theorem gD {i a b:Int}{h:Hh} (hi:a<=i/\i<=b):aE [.int i,.int a,.int b] h=.ok .non h:=by
 simp[aE,bq,hi]
structure Ord (n) (xs:List Int):Prop where
 len:xs.length=n
 nd:xs.Nodup
 lo:∀x∈xs,0<=x
 hi:∀x∈xs,x<n
noncomputable def fM (lo:Int) (n:Nat):List Int:=(LK n).map fun(i:Nat)=>lo+i
theorem BR (lo:Int) (n:Nat):bC lo n=(fM lo n).map D.int:=by simp[bC,fM,Mf]
theorem mK (lo) (n):(fM lo n).length=n:=by simp[fM]
theorem iB (n):Ord n (fM 0 n):=by
 refine⟨mK _ _,?_,?_,?_⟩
 ·unfold fM Rh
  rw[MH]
  exact QF.imp (fun{a b} h e=>h (by lia)) List.nodup_range
 ·intro x hx;simp[fM] at hx;lia
 ·intro x hx;simp[fM] at hx;lia
theorem EA {n:Nat}{xs:List Int}{h:Hh} (o:Ord n xs) (h1:1<=n) (h2:n<=20) (w:Wf h):dX [.tup (xs.map D.int)] h=.ok (.bl true) h:=by
 have hl:=o.len
 obtain⟨q,_⟩:=gy (tg:=gN 1) (body:=bV (d_ (aw eZ (ah bI (aa (ae 1) (aa (cC (.int 0)) (aa (ao bR (ah dJ (aa (ae 0) aj)) (cC (.int 1))) aj)))))) (aW (cC (.bl false))) a9)
  (fun(s:Option D)=>[some (.tup (xs.map D.int)),s]) (fun _=>h) D.int (fun s x=>some (.int x)) (fun r s=>∀x∈r,0<=x/\x<n) (fun s x r hr=>⟨fun y hy=>hr y (td _ hy),.inl (by
   have:=hr x LL
   have z:0<=x/\x<=↑xs.length - 1:=by lia
   simp[z])⟩) xs none (fun x hx=>⟨o.lo x hx,o.hi x hx⟩)
 have c1:(1:Int)<=xs.length:=by lia
 have c2:(xs.length:Int)<=20:=by lia
 have c3:xs.length<=4000:=by lia
 have c4:=yD o.nd
 simp[dX,bq,c1,c2,q,c3,c4]
 exact fH w rfl
theorem oR {n:Nat}{xs:List Int}{h:Hh} (o:Ord n xs) (h1:1<=n) (h2:n<=20) (w:Wf h):b_ [.tup (xs.map D.int)] h=.ok .non h:=by
 simp[b_,bq,EA o h1 h2 w]
noncomputable def iW {X:Type} (xs:List X) (lo hi:Option Int):List X:=(xs.drop (HT.sIx xs.length 0 lo)).take (HT.sIx xs.length xs.length hi - HT.sIx xs.length 0 lo)
theorem iw (f) (xs:List X) (lo hi):cutD (xs.map f) lo hi=(iW xs lo hi).map f:=by
 unfold cutD iW
 simp
theorem wc (xs:List X) (k:Nat):iW xs none (some (k:Int))=xs.take k:=by
 unfold iW
 rw[HT.ny,HT.wI]
 simp
theorem oV (xs:List X) (k:Nat):iW xs (some (k:Int)) none=xs.drop k:=by
 unfold iW
 rw[HT.ny,HT.wI]
 rcases Nat.le_total k xs.length with h | h
 ·rw[PQ h,NX (by simp)]
 simp_all
theorem xk (i):∀ns:List Int,((ns.map D.int).any fun d=>eqF d (.int i))=ns.any (· == i)
 | []=>rfl
 | n::r=>by rw[LW,N1,N1,xk i r];rfl
theorem ym (ns:List Int):(ns.map D.int).all fq=true:=by simp[fq]
@[simp] theorem He {neg:Bool}{i:Int}{ns:List Int}{h:Hh}:dIn neg (.int i) (.tup (ns.map D.int)) h=.ok (.bl (if neg then !(ns.any (· == i)) else ns.any (· == i))) h:=by
 simp only[dIn,iO,fq,ym,and_self,if_true,xk]
noncomputable def vx (xs:List Int):List Nat:=(LK (xs.length - 1)).filter fun i=>decide (gI xs (i+1)<gI xs i)
noncomputable def cM (xs:List Int):List Int:=(vx xs).map fun(i:Nat)=>(i:Int)
theorem ph {xs:List Int}{h:Hh}{d:D} (hd:∀(i:Int),dIx d (.int i) h=ixK (xs.map D.int) i h):bX (aw asB (ao dGt (ao dIx (ae 1) (ae 0)) (ao dIx (ae 1) (ao (bQ aD) (ae 0) (cC (.int 1)))))) (ae 0) (fun x=>[some x,some d]) (bC 0 (xs.length - 1)) h=.ok ((cM xs).map D.int) h:=by
 rw[r8 (fun i=>decide (gI xs (i+1)<gI xs i)) (fun i=>D.int i)]
 ·simp[cM,vx,Mf]
 ·intro i hi
  have e1:ixK (xs.map D.int) (i:Int) h=.ok (.int (gI xs i)) h:=jT rfl (by lia)
  have e2:ixK (xs.map D.int) ((i:Int)+1) h=.ok (.int (gI xs (i+1))) h:=jT (by lia) (by lia)
  simp_all
theorem uT {xs:List Int}{h:Hh} (hl:xs.length<=1000) (h1:1<=xs.length):cT [.tup (xs.map D.int)] h=.ok (.tup ((cM xs).map D.int)) h:=by
 have z1:((xs.length:Int) - 1).natAbs<=1000000:=by lia
 have z2:((xs.length:Int) - 1).toNat=xs.length - 1:=by lia
 have z3:xs.length - 1<=1000000:=by lia
 have q:=ph (xs:=xs) (h:=h) (d:=.tup (xs.map D.int)) (fun i=>D4)
 simp[cT,bq,z1,z2,z3,q]
theorem mL {n:Nat}{xs:List Int}{h:Hh} (o:Ord n xs) (h1:1<=n) (h2:n<=20) (w:Wf h):cB [.tup (xs.map D.int)] h=.ok (.tup ((cM xs).map D.int)) h:=by
 simp[cB,bq,oR o h1 h2 w,uT (h:=h) (xs:=xs) (by have:=o.len;lia) (by have:=o.len;lia)]
theorem iA (w:Wf h) (p):Wf (h++[.lst (gO p)]):=w.app rfl
theorem se (p){m:Nat} (h:0<m):∃k:Nat,eF p (m:Int)=(k:Int)/\k<m:=by
 have h0:=wb p (show(0:Int)<(m:Int) by lia)
 have h1:=tV p (show(0:Int)<(m:Int) by lia)
 exact⟨(eF p m).toNat,by lia,by lia⟩
theorem DX (p) (m) (h:0<m):∃k:Nat,eF p m=(k:Int)/\(k:Int)<m:=by
 have h0:=wb p h
 have h1:=tV p h
 exact⟨(eF p m).toNat,by lia,by lia⟩
theorem ku (p){m:Nat} (h:0<m):∃k:Nat,1+eF p (m:Int)=(k:Int)/\1<=k/\k<=m:=by
 obtain⟨k,e,hk⟩:=se p h
 exact⟨k+1,by lia,by lia,by lia⟩
theorem kL (ns) (lo hi):cutD (ns.map D.int) lo hi=(iW ns lo hi).map D.int:=iw _ _ _ _
theorem C7 (xs:List X) (lo hi):(iW xs lo hi).length<=xs.length:=by
 unfold iW;grind
noncomputable def t6 (xs:List Int):List Int:=(LK (xs.length+1)).map fun(k:Nat)=>((k:Int)+1)*gI (0::xs++[0]) (k+1)+((xs.length:Int)+1 - (k:Int))*gI (0::xs++[0]) k
noncomputable def nL:Nat->List Int
 | 0=>[1]
 | n+1=>t6 (nL n)
theorem yU:∀n,n<31->(nL n).length=n+1/\∀x∈nL n,x.natAbs<=10 ^ 40:=by decide +kernel
theorem yL (xs:List Int):(t6 xs).length=xs.length+1:=by simp[t6]
theorem j8:∀n,(nL n).length=n+1
 | 0=>rfl
 | n+1=>by rw[nL,yL,j8 n]
theorem E8 {x:Int} (h:x.natAbs<=10 ^ 40):sml x=true:=qV (L0 h (by decide +kernel))
theorem zU {xs:List Int}{b:Nat} (h:∀x∈xs,x.natAbs<=b) (k:Nat):(gI xs k).natAbs<=b:=by
 by_cases hk:k<xs.length
 ·exact h _ (EX hk)
 ·unfold gI;rw[MR,MJ (by lia)];simp
theorem Br {xs:List Int}{h:Hh} (hl:xs.length<=100) (hb:∀x∈xs,x.natAbs<=10 ^ 40):dz [.frl (xs.map D.int)] h=.ok (.frl ((t6 xs).map D.int)) h:=by
 have hb':∀k,sml (gI (0::xs++[0]) k)=true:=fun k=>E8 (zU (fun y hy=>by
  simp at hy
  rcases hy with rfl | hy | rfl
  ·decide
  ·exact hb y hy
  ·decide) k)
 have z1:((xs.length:Int)+1).natAbs<=1000000:=by lia
 have z2:((xs.length:Int)+1).toNat=xs.length+1:=by lia
 have z3:xs.length+1<=1000000:=by lia
 have z4:1+xs.length<=1000000:=by lia
 have z5:xs.length+1+1<=1000000:=by lia
 have q:=oY (h:=h) (n:=xs.length+1) (te:=ao (bQ aD) (ao (mM aD) (ao (bQ aD) (ae 0) (cC (.int 1))) (ao dIx (ae 1) (ao (bQ aD) (ae 0) (cC (.int 1))))) (ao (mM aD) (ao bR (ae 2) (ae 0)) (ao dIx (ae 1) (ae 0))))
  (ee:=fun d=>[some d,some (.frl (D.int 0::(xs.map D.int++[D.int 0]))),some (.int ((xs.length:Int)+1))]) (fun(k:Nat)=>D.int (((k:Int)+1)*gI (0::xs++[0]) (k+1)+((xs.length:Int)+1 - (k:Int))*gI (0::xs++[0]) k)) (fun i hi=>by
   have t1:ixK (D.int 0::(xs.map D.int++[D.int 0])) ((i:Int)+1) h=.ok (.int (gI (0::xs++[0]) (i+1))) h:=by
    have:=jT (h:=h) (ns:=0::xs++[0]) (i:=(i:Int)+1) (j:=i+1) (by lia) (by simp;lia)
    simpa using this
   have t2:ixK (D.int 0::(xs.map D.int++[D.int 0])) (i:Int) h=.ok (.int (gI (0::xs++[0]) i)) h:=by
    have:=jT (h:=h) (ns:=0::xs++[0]) (i:=(i:Int)) (j:=i) (by lia) (by simp;lia)
    simpa using this
   have s1:sml ((i:Int)+1)=true:=eG (by lia) (by lia)
   have s2:sml ((xs.length:Int)+1 - (i:Int))=true:=eG (by lia) (by lia)
   simp[t1,t2,s1,s2]
   simp only[Ng] at hb'
   simp[hb'])
 simp[dz,bq,z1,z2,z3,z4,z5,q,t6]
theorem Jd {n:Nat}{h:Hh} (hn:n<30):iu [.int ((n:Int)+1)] h=.ok (.frl ((nL n).map D.int)) h:=by
 have q:=vd (c:=aw asB (ao dLt (ah dJ (aa (ae 1) aj)) (ae 0))) (b:=aV 1 (ah dz (aa (ae 1) aj))) n (fun i=>[some (.int ((n:Int)+1)),some (.frl ((nL i).map D.int))]) (fun _=>h) (fun i hi=>by
   simp[j8];lia) (fun i hi=>by
   have:=Br (h:=h) (xs:=nL i) (by rw[j8];lia) (yU i (by lia)).2
   simp[this];rfl) (by simp[j8]) 64 (by lia)
 have z:1<=(n:Int)+1/\(n:Int)+1<=30:=by lia
 simp only[nL,LW,NS] at q
 simp[iu,bq,z,q]
noncomputable def ch:Nat->Nat->Nat
 | _,0=>1
 | 0,_+1=>0
 | n+1,k+1=>ch n k+ch n (k+1)
theorem Al (n:Nat):ch n 0=1:=by cases n<;>rfl
theorem nB:∀{n k:Nat},n<k->ch n k=0
 | 0,k+1,_=>rfl
 | n+1,k+1,h=>by rw[ch,nB (by lia),nB (by lia)]
theorem jR:∀(n i:Nat),ch n (i+1)*(i+1)=ch n i*(n - i)
 | 0,0=>rfl
 | 0,i+1=>by simp[ch]
 | n+1,0=>by
  have:=jR n 0
  rw[Al] at this
  show(ch n 0+ch n (0+1))*(0+1)=ch (n+1) 0*(n+1 - 0)
  rw[Al,Al]
  lia
 | n+1,i+1=>by
  by_cases h:i<=n
  ·have a:=jR n (i+1)
   have b:=jR n i
   rw[show ch (n+1) (i+1+1)=ch n (i+1)+ch n (i+1+1) from rfl,show ch (n+1) (i+1)=ch n i+ch n (i+1) from rfl]
   rw[Q9,a,Q9,show n+1 - (i+1)=n - i by lia,<- b]
   by_cases h2:i+1<=n
   ·rw[<- Nat.mul_add,<- Nat.mul_add]
    congr 1
    lia
   ·have:n=i:=by lia
    subst this
    rw[nB (show n<n+1 by lia)]
    simp
  ·rw[nB (show n+1<i+1 by lia),nB (show n+1<i+1+1 by lia)];simp
theorem DN (n:Nat):∀i,ch n i<=(n+1) ^ i
 | 0=>by rw[Al];simp
 | i+1=>by
  have a:=jR n i
  have b:=DN n i
  have c:ch n (i+1)<=ch n (i+1)*(i+1):=Nat.le_mul_of_pos_right _ (by lia)
  have d:ch n i*(n - i)<=(n+1) ^ i*(n+1):=Nat.mul_le_mul b (by lia)
  rw[QW]
  lia
theorem Gx {n i:Nat} (hn:n<=1000100) (hi:i<=40):sml (ch n i:Int)=true:=by
 refine qV ?_
 rw[Int.natAbs_natCast]
 refine L0 (DN n i) (L0 (Nat.pow_le_pow_left (show n+1<=10 ^ 7 by lia) i) (L0 (NN (by decide) hi) (by decide +kernel)))
theorem EK {x n:Nat}{h:Hh} (hx:x<=1000100) (hn:n<=40):eK [.int x,.int n] h=.ok (.int (ch x n)) h:=by
 obtain⟨q,e⟩:=BY (tg:=gN 3) (body:=aV 2 (ao qk (ao (mM aD) (ae 2) (ao bR (ae 0) (ae 3))) (ao (bQ aD) (ae 3) (cC (.int 1))))) n
  (fun(s:Nat × Option D)=>[some (.int x),some (.int n),some (.int (ch x s.1)),s.2]) (fun _=>h) (fun _ i=>(i+1,some (.int (i:Nat)))) (fun i s=>s.1=i) (0,none) rfl (fun i s hi hs=>⟨rfl,.inl (by
   subst hs
   have s1:=Gx hx (show s.1<=40 by lia)
   have s2:sml ((x:Int) - s.1)=true:=eG (by lia) (by lia)
   have s3:sml ((s.1:Int)+1)=true:=eG (by lia) (by lia)
   have z:(0:Int)<(s.1:Int)+1:=by lia
   have key:(ch x s.1:Int)*((x:Int) - s.1) / ((s.1:Int)+1)=(ch x (s.1+1):Int):=by
    have a:=jR x s.1
    have b:(ch x s.1:Int)*((x:Int) - s.1)=(ch x (s.1+1):Int)*((s.1:Int)+1):=by
     by_cases hl:s.1<=x
     ·have a':((ch x (s.1+1)*(s.1+1):Nat):Int)=((ch x s.1*(x - s.1):Nat):Int):=by rw[a]
      rw[Int.natCast_mul,Int.natCast_mul,Int.natCast_sub hl] at a'
      simpa using a'.symm
     ·rw[nB (show x<s.1 by lia),nB (show x<s.1+1 by lia)];simp
    rw[b,Int.mul_ediv_cancel _ (by lia)]
   simp[s1,s2,s3,z,key])⟩)
 generalize QK (fun(_:Nat × Option D) i=>(i+1,some (D.int (i:Nat)))) (0,none) (LK n)=s9 at q e
 subst e
 have z1:s9.1<=1000000:=by lia
 rw[Al] at q
 simp[eK,bq,z1] at q ⊢
 simp[q]
theorem fE (k:Nat) (h:Hh):∀xs ys:List Int,eqL (eqD (k+1) h) (xs.map D.int) (ys.map D.int)=some (decide (xs=ys))
 | [],[]=>rfl
 | [],y::ys=>rfl
 | x::xs,[]=>rfl
 | x::xs,y::ys=>by
  have ih:=fE k h xs ys
  have e1:eqD (k+1) h (.int x) (.int y)=some (x == y):=rfl
  simp only[LW,eqL,e1,ih]
  by_cases a:x=y<;>by_cases b:xs=ys<;>simp[a,b]
theorem G4 {h:Hh}{xs ys:List Int}:dEq (.tup (xs.map D.int)) (.tup (ys.map D.int)) h=.ok (.bl (decide (xs=ys))) h:=by
 have:eqD eqN h (.tup (xs.map D.int)) (.tup (ys.map D.int))=some (decide (xs=ys)):=fE 10 h xs ys
 simp only[dEq,this]
noncomputable def sg (f:Nat->Int) (n:Nat):Int:=((LK n).map f).sum
theorem E6 (f):sg f 0=0:=rfl
theorem iV (f) (n):sg f (n+1)=sg f n+f n:=by
 unfold sg
 rw[Od,Oc]
 simp
theorem bE {f g:Nat->Int}:∀{n:Nat},(∀i,i<n->f i=g i)->sg f n=sg g n
 | 0,_=>rfl
 | n+1,h=>by rw[iV,iV,bE fun i hi=>h i (by lia),h n (by lia)]
theorem iR (h:∀i,i<n->f i=0):sg f n=0:=by
 induction n with
 | zero=>rfl
 | succ n ih=>rw[iV,ih fun i hi=>h i (by lia),h n (by lia)];rfl
theorem mH (f:Nat->Int) (p:Nat):∀q,sg f (p+q)=sg f p+sg (fun i=>f (p+i)) q
 | 0=>by simp[E6]
 | q+1=>by rw[<- QH,iV,mH f p q,iV];lia
noncomputable def lss (r:Nat) (l:Int):Int:=if (r:Int)<l then 1 else 0
noncomputable def Rn:Nat->Int->Int->Int
 | 0,_,f=>if f=0 then 1 else 0
 | m+1,l,f=>sg (fun r=>Rn m r (f - lss r l)) (m+1)
theorem wH {f:Nat->Int}{B:Nat}:∀{n:Nat},(∀i,i<n->0<=f i/\f i<=B)->0<=sg f n/\sg f n<=(n*B:Nat)
 | 0,_=>by simp[E6]
 | n+1,h=>by
  have ih:=wH (n:=n) fun i hi=>h i (by lia)
  have:=h n (by lia)
  rw[iV,Nat.succ_mul]
  lia
noncomputable def lq:Nat->Nat
 | 0=>1
 | n+1=>(n+1)*lq n
structure Beg (n:Nat) (xs:List Int):Prop where
 len:xs.length<=n
 nd:xs.Nodup
 lo:∀x∈xs,0<=x
 hi:∀x∈xs,x<n
theorem Beg.nil (n:Nat):Beg n []:=⟨Nj _,List.nodup_nil,fun _ h=>(nomatch h),fun _ h=>(nomatch h)⟩
theorem Ord.beg {n:Nat}{xs:List Int} (o:Ord n xs):Beg n xs:=⟨Qm o.len,o.nd,o.lo,o.hi⟩
theorem Beg.take {n:Nat}{xs:List Int} (o:Beg n xs) (k:Nat):Beg n (xs.take k):=
 ⟨L0 (by rw[Nf];exact Nat.min_le_right _ _) o.len,o.nd.sublist (O9 _ _),fun x hx=>o.lo x (Pu hx),fun x hx=>o.hi x (Pu hx)⟩
noncomputable def gU (r:Int->Bool) (l:List Int):Nat:=(l.filter r).length
theorem gK (r:Int->Bool) (x:Int) (l:List Int):gU r (x::l)=(if r x=true then 1 else 0)+gU r l:=by
 unfold gU;rw[L_];split<;>simp[Nat.add_comm]
theorem Bu (r:Int->Bool) (v:Int):∀l:List Int,gU (fun x=>r x&&decide (x<v+1)) l=gU (fun x=>r x&&decide (x<v)) l+gU (fun x=>r x&&decide (x=v)) l
 | []=>rfl
 | x::l=>by
  rw[gK,gK,gK,Bu r v l]
  cases h:r x<;>simp
  by_cases a:x<v
  ·have b:x<v+1:=by lia
   have c:¬ x=v:=by lia
   simp[a,b,c];lia
  ·by_cases c:x=v
   ·subst c
    have b:x<x+1:=by lia
    simp[b];lia
   ·have b:¬ x<v+1:=by lia
    simp[a,b,c]
theorem vn {r:Int->Bool}:∀{l:List Int},(∀x∈l,r x=false)->gU r l=0
 | [],_=>rfl
 | x::l,h=>by rw[gK,h x LL,vn fun y hy=>h y (td _ hy)];rfl
theorem vZ {r:Int->Bool}{v:Int}:∀{l:List Int},l.Nodup->gU (fun x=>r x&&decide (x=v)) l=if v∈l/\r v=true then 1 else 0
 | [],_=>by simp[gU]
 | x::l,nd=>by
  obtain⟨n1,n2⟩:=N9.mp nd
  rw[gK,vZ n2]
  by_cases c:x=v
  ·subst c
   cases h:r x<;>simp[n1,h]
  ·have c':¬ v=x:=fun z=>c z.symm
   simp[c,c']
theorem rm {n:Nat}{xs:List Int} (b:Beg n xs):∀v:Nat,v<=n->gU (fun x=>!(xs.any (· == x))&&decide (x<(v:Int))) (fM 0 n)+gU (fun x=>true&&decide (x<(v:Int))) xs=v
 | 0,_=>by
  rw[vn,vn]
  ·intro x hx;have:=b.lo x hx;simp;lia
  ·intro x hx;have:=(iB n).lo x hx;simp;lia
 | v+1,hv=>by
  have ih:=rm b v (by lia)
  have e:((v+1:Nat):Int)=(v:Int)+1:=by lia
  rw[e,Bu,Bu,vZ (iB n).nd,vZ b.nd]
  have m:(v:Int)∈fM 0 n:=L5.mpr ⟨v,Mt.mpr (by lia),by lia⟩
  by_cases c:(v:Int)∈xs
  ·have a:xs.any (· == (v:Int))=true:=M8.mpr ⟨_,c,by simp⟩
   simp only[m,a,c,Pw,and_true,MW,and_false,if_false,if_true]
   lia
  ·have a:xs.any (· == (v:Int))=false:=by
    rw[O8];intro x hx z;exact c (beq_iff_eq.mp z ▸ hx)
   simp only[m,a,c,PZ,and_self,if_true,false_and,if_false]
   lia
noncomputable def bL (xs:List Int):Int:=gI xs (xs.length - 1)
noncomputable def lwI (xs:List Int):Int:=if xs.length=0 then 0 else bL xs - ((xs.filter fun x=>decide (x<bL xs)).length:Int)
noncomputable def aQ (n:Nat) (xs:List Int):List Int:=(fM 0 n).filter fun x=>!(xs.any (· == x))
theorem xv {xs:List Int} (h:xs.length≠0):bL xs∈xs:=by
 unfold bL;rw[eD (by lia)];exact Oq _
theorem gF {n:Nat}{xs:List Int} (b:Beg n xs):(aQ n xs).length=n - xs.length:=by
 have:=rm b n (LH _)
 have e1:gU (fun x=>!(xs.any (· == x))&&decide (x<(n:Int))) (fM 0 n)=(aQ n xs).length:=by
  unfold gU aQ
  rw[Na]
  intro x hx;have:=(iB n).hi x hx;simp[this]
 have e2:gU (fun x=>true&&decide (x<(n:Int))) xs=xs.length:=by
  unfold gU
  rw[M4.mpr]
  intro x hx;have:=b.hi x hx;simp[this]
 lia
theorem iK {n:Nat}{xs:List Int} (b:Beg n xs) (h:xs.length≠0):(((aQ n xs).filter fun x=>decide (x<bL xs)).length:Int)=lwI xs:=by
 have m:=xv h
 have h0:=b.lo _ m
 have h1:=b.hi _ m
 have:=rm b (bL xs).toNat (by lia)
 rw[show(((bL xs).toNat:Nat):Int)=bL xs by lia] at this
 have e1:gU (fun x=>!(xs.any (· == x))&&decide (x<bL xs)) (fM 0 n)=((aQ n xs).filter fun x=>decide (x<bL xs)).length:=by
  unfold gU aQ
  rw[NM]
  congr 2
  funext x
  exact Bool.and_comm _ _
 have e2:gU (fun x=>true&&decide (x<bL xs)) xs=(xs.filter fun x=>decide (x<bL xs)).length:=by
  unfold gU;simp
 unfold lwI
 rw[if_neg h]
 lia
theorem HE {n:Nat}{xs:List Int} (b:Beg n xs):0<=lwI xs/\lwI xs<=((n - xs.length:Nat):Int):=by
 by_cases h:xs.length=0
 ·unfold lwI;rw[if_pos h];lia
 ·rw[<- iK b h,<- gF b]
  have:=NJ (fun x=>decide (x<bL xs)) (aQ n xs)
  lia
theorem Beg.snoc {n:Nat}{xs:List Int}{x:Int} (b:Beg n xs) (h:x∈aQ n xs):Beg n (xs++[x]):=by
 obtain⟨h1,h2⟩:=Mj.mp h
 have nx:x∉xs:=fun z=>by
  have:xs.any (· == x)=true:=M8.mpr ⟨_,z,by simp⟩
  rw[this] at h2;cases h2
 have l:=gF b
 have lp:=List.length_pos_of_mem h
 refine⟨by rw[Mn];show xs.length+1<=n;lia,List.nodup_append.mpr ⟨b.nd,N9.mpr ⟨by simp,List.nodup_nil⟩,fun a ha c hc=>?_⟩,fun y hy=>?_,fun y hy=>?_⟩
 ·simp at hc;subst hc;exact fun z=>nx (z ▸ ha)
 ·rcases Ml.mp hy with z | z
  ·exact b.lo y z
  ·simp at z;subst z;exact(iB n).lo _ h1
 ·rcases Ml.mp hy with z | z
  ·exact b.hi y z
  ·simp at z;subst z;exact(iB n).hi _ h1
theorem Au {xs:List Int}{h:Hh} (h1:xs.length≠0):ixK (xs.map D.int) (-1) h=.ok (.int (bL xs)) h:=by
 have e:ixN (xs.map D.int).length (-1)=some (xs.length - 1):=by rw[LQ];unfold ixN;simp;lia
 unfold ixK atI bL
 rw[e]
 simp[LU (show xs.length - 1<xs.length by lia),eD (show xs.length - 1<xs.length by lia)]
theorem zu {xs:List Int}{h:Hh} (hl:xs.length<=1000):dv [.tup (xs.map D.int)] h=.ok (.int (lwI xs)) h:=by
 unfold lwI
 by_cases c:xs.length=0
 ·have:xs=[]:=Nh c
  subst this
  simp[dv,bq]
 ·rw[if_neg c]
  have c':¬ (xs.length:Int)=0:=by lia
  have ix:=fun H:Hh=>Au (h:=H) c
  have q:bX (aw asB (ao dLt (ae 0) (ao dIx (ae 1) (cUn nD (cC (.int 1)))))) (ae 0) (fun x=>[some x,some (.tup (xs.map D.int))]) (xs.map D.int) h=.ok ((xs.filter fun x=>decide (x<bL xs)).map D.int) h:=
   comp_map D.int (fun x=>decide (x<bL xs)) D.int xs fun x hx=>⟨by simp[ix],fun _=>by simp⟩
  have c0:¬ xs=[]:=fun z=>c (by rw[z];rfl)
  have z6:xs.length<=1000000:=by lia
  simp[dv,bq,c,c',c0,ix,q,z6]
theorem zX {xs:List Int}{h:Hh} (hl:xs.length<=1000):cT [.tup (xs.map D.int)] h=.ok (.tup ((cM xs).map D.int)) h:=by
 by_cases c:xs.length=0
 ·have:xs=[]:=Nh c
  subst this
  kernel_rfl
 ·have z1:((xs.length:Int) - 1).natAbs<=1000000:=by lia
  have z2:((xs.length:Int) - 1).toNat=xs.length - 1:=by lia
  have z3:xs.length - 1<=1000000:=by lia
  have q:=ph (xs:=xs) (h:=h) (d:=.tup (xs.map D.int)) (fun i=>D4)
  simp[cT,bq,z1,z2,z3,q]
noncomputable def tpl (xs:List Int):D:=.tup (xs.map D.int)
theorem yJ {n:Nat}{xs:List Int}{h:Hh} (hl:xs.length<=1000):bX (aw asB (ao (dIn true) (ae 0) (ae 1))) (ao (bQ aD) (ae 1) (ah d8 (aa (ae 0) aj))) (fun x=>[some x,some (.tup (xs.map D.int))]) (bC 0 n) h=.ok ((aQ n xs).map fun x=>tpl (xs++[x])) h:=by
 rw[BR,comp_map D.int (fun x=>!(xs.any (· == x))) (fun x=>tpl (xs++[x])) (fM 0 n) fun x hx=>⟨by simp,fun _=>by
  have z:xs.length+1<=1000000:=by lia
  simp[tpl,z]⟩]
 rfl
theorem lL {σ:Type} (enc) (N) (E:σ->En) (G:σ->Hh) (I:Nat->σ->Prop)
  (st:∀i s,i<N->I i s->∃s',I (i+1) s'/\(tg (enc i) (E s) (G s)).bind body=.ok (.nx (E s')) (G s')) :
  ∀k i s , i+k=N->I i s->∃s',eJ tg body ((P6 i k).map enc) (E s) (G s)=.ok (.nx (E s')) (G s')/\I N s':=by
 intro k
 induction k with
 | zero=>
  intro i s e hi
  have:i=N:=by lia
  subst this
  exact⟨s,rfl,hi⟩
 | succ k ih=>
  intro i s e hi
  obtain⟨s1,a,b⟩:=st i s (by lia) hi
  obtain⟨s2,c,d⟩:=ih (i+1) s1 (by lia) a
  refine⟨s2,?_,d⟩
  rw[List.range'_succ,LW,eJ,<- bG,b]
  exact c
theorem GJ (n):bC 0 n=(P6 0 n).map fun(i:Nat)=>D.int i:=by rw[cX,N6]
theorem uK {v:Int}:∀{L:List Int},L.Pairwise (· < ·)->∀(r:Nat) (hr:r<L.length),L[r]<v↔r<(L.filter fun x=>decide (x<v)).length
 | [],_,r,hr=>by grind
 | a::L,so,r,hr=>by
  obtain⟨h1,h2⟩:=L6.mp so
  by_cases c:a<v
  ·rw[L_,if_pos (by simp_all),Mi]
   cases r with
   | zero=>simp[c]
   | succ r=>
    have:=uK (v:=v) h2 r (by simp_all)
    simp_all
  ·have e:(a::L).filter (fun x=>decide (x<v))=[]:=by
    rw[Nc]
    grind
   rw[e]
   have:¬ (a::L)[r]<v:=by
    have hm:=Oq hr
    grind
   grind
theorem HI {L:List Int} (so:L.Pairwise (· < ·)) (r) (hr):(L.filter fun x=>decide (x<L[r])).length=r:=by
 have h:=fun s hs=>uK (v:=L[r]) so s hs
 have lt:∀s (hs:s<L.length),L[s]<L[r]↔s<r:=fun s hs=>by
  constructor
  ·grind
  ·intro z;exact MB.mp so s r hs hr z
 generalize (L.filter fun x=>decide (x<L[r])).length=c at h
 by_cases c1:c<r
 ·grind
 grind
theorem uD {x:Int} (so:L.Pairwise (· < ·)) (e:L=l1++x::l2):(L.filter fun y=>decide (y<x))=l1:=by
 subst e
 rw[L8,L6] at so
 rw[Oy,M4.mpr,Nc.mpr,NF]
 ·grind
 simp_all
theorem IW (n):(fM 0 n).Pairwise (· < ·):=by
 unfold fM
 rw[MH]
 exact QF.imp (fun{a b} h=>by lia) O7
theorem lW (n) (xs):(aQ n xs).Pairwise (· < ·):=(IW n).filter _
theorem zh:aQ n (xs++[x])=(aQ n xs).filter fun y=>!(x == y):=by
 unfold aQ
 rw[NM]
 grind
theorem qU (h:i<xs.length):gI (xs++ys) i=gI xs i:=by
 rw[eD (by grind),eD h,List.getElem_append_left h]
theorem zN:gI (xs++[x]) xs.length=x:=by
 rw[eD (by simp),List.getElem_append_right (LH _)];simp
theorem yh:bL (xs++[x])=x:=by
 unfold bL;rw[Mn];exact zN
structure Cnt (n) (B:List Int->Int):Prop where
 pos:∀xs,Beg n xs->0<=B xs
 sum:∀xs,Beg n xs->xs.length<n->B xs=((aQ n xs).map fun x=>B (xs++[x])).sum
theorem xR {α:Type} (L) (f:Int->α):L.map f=(LK L.length).map fun i=>f (gI L i):=by
 refine Pn (by simp) fun i h1 h2=>?_
 rw[LQ] at h1
 simp[eD h1]
noncomputable def nxB (n:Nat) (B:List Int->Int) (xs:List Int):List Int:=(aQ n xs).filter fun x=>decide (0<B (xs++[x]))
noncomputable def cS (B:List Int->Int) (xs l:List Int):Int:=(l.map fun x=>B (xs++[x])).sum
theorem bw:cS B xs (x::l)=B (xs++[x])+cS B xs l:=by rfl
theorem wR:cS B xs (l1++l2)=cS B xs l1+cS B xs l2:=by
 induction l1 with
 | nil=>unfold cS;simp
 | cons a l ih=>rw[Ng,bw,bw,ih];lia
theorem lV {B:List Int->Int}{xs:List Int}:∀{l:List Int},(∀x∈l,0<=B (xs++[x]))->0<=cS B xs l
 | [],_=>NV _
 | x::l,h=>by
  rw[bw]
  have:=h x LL
  have:=lV (l:=l) fun y hy=>h y (td _ hy)
  lia
theorem qO:∀{l:List Int},(∀x∈l,0<=B (xs++[x]))->cS B xs ((l.filter fun x=>decide (0<B (xs++[x]))).filter p)=cS B xs (l.filter p)
 | [],_=>rfl
 | x::l,h=>by
  have h0:=h x LL
  have ih:=qO (p:=p) (l:=l) fun y hy=>h y (td _ hy)
  by_cases c:0<B (xs++[x])
  ·rw[L_,if_pos (by simp_all),L_,L_]
   split
   ·rw[bw,bw,ih]
   lia
  ·rw[L_,if_neg (by simp_all),L_,ih]
   split
   ·rw[bw];lia
   ·rfl
section
variable {n:Nat}{B:List Int->Int} (C:Cnt n B)
include C
theorem Cnt.left (b:Beg n xs):∀x∈aQ n xs,0<=B (xs++[x]):=fun x hx=>C.pos _ (b.snoc hx)
theorem Cnt.nx (b:Beg n xs) (hl:xs.length<n):cS B xs (nxB n B xs)=B xs:=by
 rw[C.sum xs b hl]
 have:=qO (B:=B) (xs:=xs) (p:=fun _=>true) (C.left b)
 have e:∀l:List Int,l.filter (fun _=>true)=l:=fun l=>M4.mpr (by simp)
 rw[e,e] at this
 exact this
end
theorem Az:(nxB n B xs).Pairwise (· < ·):=(lW n xs).filter _
theorem gT (h:x∈nxB n B xs):x∈aQ n xs:=(Mj.mp h).1
noncomputable def gz (B:List Int->Int) (xs:List Int):List Int->Int->Option (Int × Int)
 | [],_=>none
 | x::r,t=>if t<B (xs++[x]) then some (x,t) else gz B xs r (t - B (xs++[x]))
theorem lO {B:List Int->Int}{xs:List Int}:∀{l:List Int}{t:Int},0<=t->t<cS B xs l->∃x t' l1 l2,l=l1++x::l2/\gz B xs l t=some (x,t')/\t'=t - cS B xs l1/\0<=t'/\t'<B (xs++[x])
 | [],t,h0,h1=>by simp[cS] at h1;lia
 | x::l,t,h0,h1=>by
  rw[bw] at h1
  by_cases c:t<B (xs++[x])
  ·exact⟨x,t,[],l,rfl,by unfold gz;simp_all,by simp[cS],h0,c⟩
  ·obtain⟨y,t',l1,l2,e1,e2,e3,e4,e5⟩:=lO (B:=B) (xs:=xs) (l:=l) (t:=t - B (xs++[x])) (by lia) (by lia)
   exact⟨y,t',x::l1,l2,by grind,by unfold gz;grind,by rw[bw];lia,e4,e5⟩
theorem xu (h0:0<=u) (h1:u<B (xs++[x])):∀{l1:List Int},(∀y∈l1,0<=B (xs++[y]))->gz B xs (l1++x::l2) (cS B xs l1+u)=some (x,u)
 | [],_=>by
  show gz B xs (x::l2) (0+u)=_
  unfold gz
  simp_all
 | y::l1,h=>by
  have hy:=h y LL
  have hp:=lV (B:=B) (xs:=xs) (l:=l1) fun z hz=>h z (td _ hz)
  rw[Ng,bw]
  unfold gz
  rw[if_neg (by lia),show B (xs++[y])+cS B xs l1+u - B (xs++[y])=cS B xs l1+u by lia]
  exact xu h0 h1 fun z hz=>h z (td _ hz)
noncomputable def grd (n:Nat) (B:List Int->Int):Nat->List Int->Int->List Int × Int
 | 0,xs,t=>(xs,t)
 | j+1,xs,t=>match gz B xs (nxB n B xs) t with
  | some (x,t')=>grd n B j (xs++[x]) t'
  | none=>(xs,t)
noncomputable def rkL (n:Nat) (B:List Int->Int):List Int->List Int->Int
 | _,[]=>0
 | xs,y::r=>cS B xs ((aQ n xs).filter fun x=>decide (x<y))+rkL n B (xs++[y]) r
theorem A_ {n:Nat}{B:List Int->Int} (C:Cnt n B):∀(j:Nat) (xs:List Int) (t:Int),Beg n xs->xs.length+j=n->0<=t->t<B xs →
  ∃rest t',grd n B j xs t=(xs++rest,t')/\rest.length=j/\Beg n (xs++rest)/\0<=t'/\t'<B (xs++rest)/\rkL n B xs rest=t - t'
 | 0,xs,t,b,hl,h0,h1=>⟨[],t,by simp[grd],rfl,by simp_all,h0,by simp_all,by simp[rkL]⟩
 | j+1,xs,t,b,hl,h0,h1=>by
  rw[<- C.nx b (by lia)] at h1
  obtain⟨x,t',l1,l2,e1,e2,e3,e4,e5⟩:=lO h0 h1
  have xin:x∈nxB n B xs:=by simp_all
  have b2:=b.snoc (gT xin)
  obtain⟨rest,t2,g1,g2,g3,g4,g5,g6⟩:=A_ C j (xs++[x]) t' b2 (by grind) e4 e5
  rw[Mr] at g1 g3 g5
  refine⟨x::rest,t2,?_,by simp[g2],g3,g4,g5,?_⟩
  ·unfold grd;simp_all
  ·unfold rkL
   rw[g6,<- qO (C.left b)]
   have:=uD (Az (n:=n) (B:=B) (xs:=xs)) e1
   rw[show((aQ n xs).filter fun x=>decide (0<B (xs++[x])))=nxB n B xs from rfl,this]
   lia
theorem DZ {n:Nat}{B:List Int->Int} (C:Cnt n B):∀(rest xs:List Int) (t:Int),Beg n (xs++rest)->0<=t->t<B (xs++rest)->xs.length+rest.length=n →
  0<=rkL n B xs rest/\rkL n B xs rest+t<B xs/\grd n B rest.length xs (rkL n B xs rest+t)=(xs++rest,t)
 | [],xs,t,b,h0,h1,hl=>by simp[rkL,grd] at *;exact h1
 | y::rest,xs,t,b,h0,h1,hl=>by
  have e:xs++y::rest=(xs++[y])++rest:=by simp
  rw[e] at b h1
  obtain⟨i0,i1,i2⟩:=DZ C rest (xs++[y]) t b h0 h1 (by grind)
  have bx:Beg n (xs++[y]):=by have:=b.take (xs++[y]).length;grind
  have b0:Beg n xs:=by have:=bx.take xs.length;grind
  have yl:y∈aQ n xs:=by
   refine Mj.mpr ⟨?_,?_⟩
   ·have:=bx.lo y (by simp);have:=bx.hi y (by simp)
    exact L5.mpr ⟨y.toNat,Mt.mpr (by lia),by lia⟩
   ·have nd:=bx.nd
    grind
  have yn:y∈nxB n B xs:=Mj.mpr ⟨yl,by grind⟩
  obtain⟨l1,l2,el⟩:=List.append_of_mem yn
  have lp:∀z∈nxB n B xs,0<=B (xs++[z]):=fun z hz=>C.left b0 z (gT hz)
  have s1:=C.nx b0 (by grind)
  have p1:=uD (Az (n:=n) (B:=B) (xs:=xs)) el
  have sm:cS B xs ((aQ n xs).filter fun x=>decide (x<y))=cS B xs l1:=by
   rw[<- qO (C.left b0),show((aQ n xs).filter fun x=>decide (0<B (xs++[x])))=nxB n B xs from rfl,p1]
  have l1p:∀z∈l1,0<=B (xs++[z]):=fun z hz=>lp z (by grind)
  have l2p:∀z∈l2,0<=B (xs++[z]):=fun z hz=>lp z (by grind)
  have q1:=lV l1p
  have q2:=lV l2p
  rw[el,wR,bw] at s1
  have pk:=xu (B:=B) (xs:=xs) (l2:=l2) (x:=y) (u:=rkL n B (xs++[y]) rest+t) (by lia) i1 l1p
  unfold rkL
  rw[sm]
  refine⟨by lia,by lia,?_⟩
  rw[Mi]
  unfold grd
  grind
noncomputable def uv (n:Nat) (B:List Int->Int) (C:D):Prop:=∃x ds np m,C=.clo x ds/\gS x=some (np,m)/\ds.length+1=np/\∀xs h,Beg n xs->m (ds++[.tup (xs.map D.int)]) h=.ok (.int (B xs)) h
theorem nF {n:Nat}{B:List Int->Int}{C:D} (c:uv n B C){xs:List Int}{f:ME}{a:MA}{env:En}{h h1 h2:Hh} (b:Beg n xs) (ef:f env h=.ok C h1) (ea:a env h1=.ok [.tup (xs.map D.int)] h2):gk gS f a env h=.ok (.int (B xs)) h2:=by
 obtain⟨x,ds,np,m,rfl,et,el,em⟩:=c
 unfold gk
 rw[ef]
 show(match gS x with | some (np,m)=>_ | none=>_)=_
 rw[et]
 show(if ds.length+1=np then _ else _)=_
 rw[if_pos el,ea]
 exact em xs h2 b
theorem zc {n:Nat}{B:List Int->Int}{C:D}{xs:List Int}{h:Hh} (c:uv n B C) (b:Beg n xs) (hn:n<=1000):cZ [.int n,.tup (xs.map D.int),C] h=.ok (.frl ((nxB n B xs).map fun x=>tpl (xs++[x]))) h:=by
 have bl:=b.len
 have q:=yJ (n:=n) (xs:=xs) (h:=h) (by lia)
 have q2:bX (aw asB (ao dGt (gk gS (ae 1) (aa (ae 0) aj)) (cC (.int 0)))) (ae 0) (fun x=>[some x,some C]) ((aQ n xs).map fun x=>tpl (xs++[x])) h=.ok ((nxB n B xs).map fun x=>tpl (xs++[x])) h:=by
  rw[comp_map (fun x=>tpl (xs++[x])) (fun x=>decide (0<B (xs++[x]))) (fun x=>tpl (xs++[x])) (aQ n xs) fun x hx=>⟨by
   have e:=nF (f:=ae 1) (a:=aa (ae 0) aj) (env:=[some (tpl (xs++[x])),some C]) (h:=h) (h1:=h) (h2:=h) c (b.snoc hx) (by simp) (by simp[tpl])
   simp only[FW,Ik,e]
   simp,fun _=>by simp⟩]
  rfl
 have l1:((aQ n xs).map fun x=>tpl (xs++[x])).length<=1000000:=by rw[LQ,gF b];lia
 have z2:(n:Int).natAbs<=1000000:=by lia
 have z3:n<=1000000:=by lia
 generalize ((aQ n xs).map fun x=>tpl (xs++[x]))=W at *
 generalize ((nxB n B xs).map fun x=>tpl (xs++[x]))=W2 at *
 generalize xs.map D.int=X at *
 simp[cZ,bq,z2,z3,q,l1,q2]
noncomputable def ONB:MS:=(az (aV 6 (gk gS (ae 2) (aa (ae 5) aj))) (az (bV (aw asB (ao dLt (ae 1) (ae 6))) (az (aV 3 (ae 5)) BF) a9) (oB 1 bR (ae 6))))
noncomputable def ONO:MS:=(eL (bz (ah cZ (aa (ae 0) (aa (ae 3) (aa (ae 2) aj))))) (gN 5) ONB)
theorem D6 {n:Nat}{B:List Int->Int}{C:D} (c:uv n B C){xs:List Int}{h:Hh}{y4:Option D} (b:Beg n xs):∀(l:List Int) (t x t':Int) (y5 y6:Option D),(∀z∈l,z∈aQ n xs)->gz B xs l t=some (x,t') →
  ∃z5 z6,eJ (gN 5) ONB (l.map fun x=>tpl (xs++[x])) [some (.int n),some (.int t),some C,some (.tup (xs.map D.int)),y4,y5,y6] h=.ok (.nx [some (.int n),some (.int t'),some C,some (tpl (xs++[x])),y4,z5,z6]) h
 | [],t,x,t',y5,y6,_,e=>by cases e
 | z::l,t,x,t',y5,y6,hl,e=>by
  have cc:=nF (f:=ae 2) (a:=aa (ae 5) aj) (env:=[some (.int n),some (.int t),some C,some (.tup (xs.map D.int)),y4,some (tpl (xs++[z])),y6]) (h:=h) (h1:=h) (h2:=h) c (b.snoc (hl z LL)) (by simp) (by simp[tpl])
  rw[LW,rH]
  unfold gz at e
  split at e
  ·rename_i c1
   cases e
   refine⟨some (tpl (xs++[z])),some (.int (B (xs++[z]))),?_⟩
   generalize tpl (xs++[z])=Z at *
   generalize (l.map fun x=>tpl (xs++[x]))=W
   simp[ONB,cc,c1]
  ·rename_i c1
   obtain⟨z5,z6,q⟩:=D6 c (xs:=xs) (h:=h) (y4:=y4) b l (t - B (xs++[z])) x t' (some (tpl (xs++[z]))) (some (.int (B (xs++[z])))) (fun y hy=>hl y (td _ hy)) e
   refine⟨z5,z6,?_⟩
   generalize tpl (xs++[z])=Z at *
   generalize (l.map fun x=>tpl (xs++[x]))=W at *
   have st:ONB [some (.int n),some (.int t),some C,some (.tup (xs.map D.int)),y4,some Z,y6] h=.ok (.nx [some (.int n),some (.int (t - B (xs++[z]))),some C,some (.tup (xs.map D.int)),y4,some Z,some (.int (B (xs++[z])))]) h:=by simp[ONB,cc,c1]
   simp[st,q]
theorem u4 {n:Nat}{B:List Int->Int}{C:D}{t:Int}{h:Hh} (K:Cnt n B) (c:uv n B C) (hn:n<=1000) (h0:0<=t) (h1:t<B []):bg [.int n,.int t,C] h=.ok (.tup ((grd n B n [] t).1.map D.int)) h:=by
 obtain⟨s,lp,sl,sb,s0,s1,sg⟩:=lL (σ:=List Int × Int × Option D × Option D × Option D) (tg:=gN 4) (body:=ONO) (fun(i:Nat)=>D.int i) n (fun s=>[some (.int n),some (.int s.2.1),some C,some (.tup (s.1.map D.int)),s.2.2.1,s.2.2.2.1,s.2.2.2.2]) (fun _=>h) (fun i s=>s.1.length=i/\Beg n s.1/\0<=s.2.1/\s.2.1<B s.1/\grd n B (n - i) s.1 s.2.1=grd n B n [] t) (fun i s hi hs=>by
  obtain⟨xs,u,y4,y5,y6⟩:=s
  obtain⟨e1,b,u0,u1,eg⟩:=hs
  dsimp only at e1 b u0 u1 eg ⊢
  have u1':=u1
  rw[<- K.nx b (by lia)] at u1'
  obtain⟨x,t',l1,l2,p1,p2,p3,p4,p5⟩:=lO u0 u1'
  have xin:x∈aQ n xs:=gT (by rw[p1];simp)
  obtain⟨z5,z6,q⟩:=D6 c (xs:=xs) (h:=h) (y4:=some (.int (i:Int))) b (nxB n B xs) u x t' y5 y6 (fun z hz=>gT hz) p2
  refine⟨(xs++[x],t',some (.int i),z5,z6),⟨by simp[e1],b.snoc xin,p4,p5,?_⟩,?_⟩
  ·rw[<- eg,show n - i=(n - (i+1))+1 by lia]
   show _=(match gz B xs (nxB n B xs) u with | some (x,t')=>grd n B (n - (i+1)) (xs++[x]) t' | none=>(xs,u))
   rw[p2]
  ·have lo:=zc (h:=h) c b hn
   have ll:((nxB n B xs).map fun x=>tpl (xs++[x])).length<=1000000:=by
    rw[LQ]
    have:=NJ (fun x=>decide (0<B (xs++[x]))) (aQ n xs)
    rw[gF b] at this
    unfold nxB;lia
   dsimp only
   rw[show tpl (xs++[x])=D.tup ((xs++[x]).map D.int) from rfl] at q
   generalize ((nxB n B xs).map fun x=>tpl (xs++[x]))=W at *
   generalize (xs++[x]).map D.int=X2 at *
   generalize xs.map D.int=X at *
   simp[ONO,lo,q]) n 0 ([],t,none,none,none) (by lia) ⟨rfl,Beg.nil n,h0,h1,rfl⟩
 obtain⟨xs,u,y4,y5,y6⟩:=s
 dsimp only at lp sl sb s0 s1 sg
 rw[QV] at sg
 have e:(grd n B n [] t).1=xs:=by rw[<- sg];rfl
 rw[e]
 rw[<- N6,<- cX,NS] at lp
 have z2:(n:Int).natAbs<=1000000:=by lia
 have z3:n<=1000000:=by lia
 have eq:bg=b9 7 (az (aV 3 (ah d8 aj)) (az (eL (eS fC (aa (ae 0) aj)) (gN 4) ONO) (aW (ae 3)))):=rfl
 rw[eq]
 simp[bq,z2,z3,lp]
theorem BK {n:Nat}{xs:List Int} (b:Beg n xs){r:Nat} (hr:r<(aQ n xs).length):lwI (xs++[(aQ n xs)[r]])=r:=by
 have so:=lW n xs
 have b2:=b.snoc (Oq hr)
 rw[<- iK b2 (by simp),yh,zh,NM]
 have:((aQ n xs).filter fun y=>decide (y<(aQ n xs)[r])&&!((aQ n xs)[r] == y))=(aQ n xs).filter fun y=>decide (y<(aQ n xs)[r]):=Na fun y _=>by
  by_cases c:y<(aQ n xs)[r]
  ·have:¬ (aQ n xs)[r]=y:=by lia
   simp[c,this]
  ·simp[c]
 rw[this,HI so r hr]
theorem CN {n:Nat}{xs:List Int} (b:Beg n xs) (h:xs.length≠0){r:Nat} (hr:r<(aQ n xs).length):(aQ n xs)[r]<bL xs↔(r:Int)<lwI xs:=by
 rw[<- iK b h,uK (v:=bL xs) (lW n xs) r hr]
 lia
noncomputable def Jr (n:Nat) (fl:Nat->Bool):Nat->Int->Int
 | 0,_=>1
 | m+1,l=>sg (fun r=>if decide ((r:Int)<l)=fl (n - 2 - m) then Jr n fl m r else 0) (m+1)
theorem kU (n:Nat) (fl:Nat->Bool):∀(m:Nat) (l:Int),0<=Jr n fl m l/\Jr n fl m l<=lq m
 | 0,l=>by unfold Jr lq;lia
 | m+1,l=>wH fun r _=>by
  have:=kU n fl m r
  split<;>lia
noncomputable def fok (fl:Nat->Bool) (xs:List Int):Bool:=(LK (xs.length - 1)).all fun i=>decide (gI xs (i+1)<gI xs i) == fl i
theorem AK {fl:Nat->Bool}{xs:List Int}{x:Int} (h:xs.length≠0):fok fl (xs++[x])=(fok fl xs&&(decide (x<bL xs) == fl (xs.length - 1))):=by
 unfold fok
 rw[Mn]
 show(LK xs.length).all _=_
 obtain⟨m,hm⟩:∃m,xs.length=m+1:=⟨xs.length - 1,by lia⟩
 rw[hm,Od,List.all_append,show m+1 - 1=m from rfl]
 have e1:gI (xs++[x]) (m+1)=x:=by rw[<- hm];exact zN
 have e2:gI (xs++[x]) m=bL xs:=by unfold bL;rw[qU (by lia),hm];rfl
 simp only[NP,QR,QD,e1,e2]
 congr 1
 rw[M3,L4,L4]
 refine forall_congr' fun i=>forall_congr' fun hi=>?_
 have hi:=Mt.mp hi
 rw[qU (by lia),qU (by lia)]
noncomputable def jcV (n:Nat) (fl:Nat->Bool) (xs:List Int):Int:=if xs.length=0 then sg (fun r=>Jr n fl (n - 1) r) n else if fok fl xs=true then Jr n fl (n - xs.length) (lwI xs) else 0
theorem EU {n:Nat}{fl:Nat->Bool}{xs:List Int}:0<=jcV n fl xs:=by
 unfold jcV
 split
 ·exact(wH (B:=lq (n - 1)) fun r _=>kU n fl _ _).1
 ·split
  ·exact(kU n fl _ _).1
  ·exact NV _
theorem kR:∀{a b:Nat},a<=b->lq a<=lq b
 | a,0,h=>by have:a=0:=by lia
             subst this;exact LH _
 | a,b+1,h=>by
  by_cases c:a=b+1
  ·subst c;exact LH _
  ·have ih:=kR (a:=a) (b:=b) (by lia)
   show lq a<=(b+1)*lq b
   rw[Nat.succ_mul];lia
theorem HH {n:Nat}{fl:Nat->Bool}{xs:List Int} (h1:1<=n) (hn:n<=20):jcV n fl xs<=10 ^ 20:=by
 have f20:lq 20<=10 ^ 20:=by decide +kernel
 have m1:=kR (a:=n) (b:=20) hn
 unfold jcV
 split
 ·have:=(wH (f:=fun r=>Jr n fl (n - 1) r) (B:=lq (n - 1)) (n:=n) fun r _=>kU n fl _ _).2
  have e:n*lq (n - 1)=lq n:=by
   obtain⟨m,rfl⟩:∃m,n=m+1:=⟨n - 1,by lia⟩
   rfl
  lia
 ·split
  ·have:=(kU n fl (n - xs.length) (lwI xs)).2
   have:=kR (a:=n - xs.length) (b:=20) (by lia)
   lia
  ·lia
theorem gr {n:Nat} (fl:Nat->Bool) (h1:1<=n):Cnt n (jcV n fl):=by
 refine⟨fun xs _=>EU,fun xs b hl=>?_⟩
 have ll:=gF b
 by_cases c:xs.length=0
 ·have:xs=[]:=Nh c
  subst this
  have el:aQ n []=fM 0 n:=by unfold aQ;rw[M4.mpr];intro x _;rfl
  rw[el,xR,mK]
  show sg _ n=_
  unfold sg
  congr 1
  refine L9 fun r hr=>?_
  have hr:=Mt.mp hr
  have e:gI (fM 0 n) r=r:=by rw[eD (by rw[mK];exact hr)];simp[fM]
  rw[e,M1]
  have l1:lwI [(r:Int)]=r:=by
   have:bL [(r:Int)]=r:=rfl
   unfold lwI;rw[this];simp
  show _=(if ([(r:Int)]:List Int).length=0 then _ else if fok fl [(r:Int)]=true then Jr n fl (n - 1) (lwI [(r:Int)]) else 0)
  rw[l1]
  rfl
 ·obtain⟨m,hm⟩:∃m,n - xs.length=m+1:=⟨n - xs.length - 1,by lia⟩
  rw[hm] at ll
  rw[xR,ll]
  have key:∀r,r<m+1->jcV n fl (xs++[gI (aQ n xs) r])=if fok fl xs=true then (if decide ((r:Int)<lwI xs)=fl (n - 2 - m) then Jr n fl m r else 0) else 0:=fun r hr=>by
   have hr':r<(aQ n xs).length:=by lia
   rw[eD hr']
   have l1:=BK b hr'
   have l2:=CN b c hr'
   unfold jcV
   rw[if_neg (by simp),AK c,l1,Mn]
   have e3:n - (xs.length + [(aQ n xs)[r]].length)=m:=by simp;lia
   rw[e3,show n - 2 - m=xs.length - 1 by lia]
   have e4:decide ((aQ n xs)[r]<bL xs)=decide ((r:Int)<lwI xs):=by rw[M3];simpa using l2
   rw[e4]
   cases fok fl xs with
   | false=>simp
   | true=>
    simp only[QI,if_true]
    by_cases d:decide ((r:Int)<lwI xs)=fl (xs.length - 1)
    ·rw[if_pos d,if_pos (by rw[d];simp)]
    ·rw[if_neg d,if_neg (by simpa using d)]
  unfold jcV
  rw[if_neg c,hm]
  have e5:((LK (m+1)).map fun i=>jcV n fl (xs++[gI (aQ n xs) i]))=(LK (m+1)).map fun(r:Nat)=>if fok fl xs=true then (if decide ((r:Int)<lwI xs)=fl (n - 2 - m) then Jr n fl m r else 0) else 0:=L9 fun r hr=>key r (Mt.mp hr)
  show _=((LK (m+1)).map fun i=>jcV n fl (xs++[gI (aQ n xs) i])).sum
  rw[e5]
  cases fok fl xs with
  | false=>
   have:=iR (f:=fun _=>(0:Int)) (n:=m+1) fun _ _=>rfl
   simpa [sg] using this.symm
  | true=>simp only[if_true];rfl
theorem lK {n:Nat}{fl:Nat->Bool}{xs:List Int} (h1:1<=n) (h:xs.length=n):jcV n fl xs=if fok fl xs=true then 1 else 0:=by
 unfold jcV
 rw[if_neg (by lia),show n - xs.length=0 by lia]
 rfl
noncomputable def aA (n:Nat) (fl:Nat->Bool):List Int:=((LK (n - 1)).filter fl).map fun(i:Nat)=>(i:Int)
theorem Aj {α:Type}{p q:α->Bool}{l:List α}:l.filter p=l.filter q↔∀x∈l,p x=q x:=by
 constructor
 ·intro e x hx
  rw[M3]
  have:x∈l.filter p↔x∈l.filter q:=by rw[e]
  simpa [hx] using this
 ·exact fun h=>Na h
theorem rS:∀{m n:Nat},m<=n->(LK n).filter (fun i=>decide (i<m))=LK m
 | m,0,h=>by have:m=0:=by lia
             subst this;rfl
 | m,n+1,h=>by
  rw[Od,Oy]
  by_cases c:m=n+1
  ·subst c
   rw[M4.mpr (by intro x hx;have:=Mt.mp hx;simp;lia),Od]
   simp
  ·rw[rS (by lia)]
   have:¬ n<m:=by lia
   simp[this]
theorem B7 {n len:Nat}{fl:Nat->Bool} (h:len<=n) (h0:len≠0):(aA n fl).filter (fun x=>decide (x<(len:Int) - 1))=((LK (len - 1)).filter fl).map fun(i:Nat)=>(i:Int):=by
 unfold aA
 rw[Oe,<- rS (m:=len - 1) (n:=n - 1) (by lia),NM,NM]
 congr 1
 refine Na fun i _=>?_
 rw[Bool.and_comm]
 congr 1
 show decide ((i:Int)<(len:Int) - 1)=decide (i<len - 1)
 rw[M3];simp;lia
theorem map_inj {l1 l2:List Nat}:(l1.map fun(i:Nat)=>(i:Int))=(l2.map fun(i:Nat)=>(i:Int))↔l1=l2:=by
 constructor
 ·intro e
  have:=congrArg (Rw Int.toNat) e
  simpa [Mf,Function.comp_def] using this
 ·rintro rfl;rfl
theorem wQ {n:Nat}{fl:Nat->Bool}{xs:List Int} (h:xs.length<=n) (h0:xs.length≠0):cM xs=(aA n fl).filter (fun x=>decide (x<(xs.length:Int) - 1))↔fok fl xs=true:=by
 rw[B7 h h0]
 unfold cM vx fok
 rw[map_inj,Aj,L4]
 refine forall_congr' fun i=>forall_congr' fun _=>?_
 rw[beq_iff_eq]
theorem j3 {n:Nat}{fl:Nat->Bool}{xs:List Int} (h:xs.length=n) (h1:1<=n):fok fl xs=true↔cM xs=aA n fl:=by
 rw[<- wQ (n:=n) (by lia) (by lia),M4.mpr]
 intro x hx
 obtain⟨i,hi,rfl⟩:=L5.mp hx
 have:=Mt.mp (Mj.mp hi).1
 simp;lia
theorem nE {n:Nat}{fl:Nat->Bool}{p:Nat} (h:p<n - 1):(aA n fl).any (· == (p:Int))=fl p:=by
 rw[M3,M8]
 unfold aA
 constructor
 ·rintro⟨x,hx,e⟩
  obtain⟨i,hi,rfl⟩:=L5.mp hx
  have:i=p:=by have:=beq_iff_eq.mp e;lia
  subst this
  exact(Mj.mp hi).2
 ·intro e
  exact⟨p,L5.mpr ⟨p,Mj.mpr ⟨Mt.mpr h,e⟩,rfl⟩,by simp⟩
theorem Dr {n:Nat}{fl:Nat->Bool}{t:Int} (hn:1<=n) (h0:0<=t) (h1:t<jcV n fl []):∃xs,(grd n (jcV n fl) n [] t).1=xs/\Ord n xs/\cM xs=aA n fl/\rkL n (jcV n fl) [] xs=t:=by
 obtain⟨rest,t',e1,e2,e3,e4,e5,e6⟩:=A_ (gr fl hn) n [] t (Beg.nil n) (by simp) h0 h1
 rw[M1] at e1 e3 e5
 rw[lK hn e2] at e5
 by_cases c:fok fl rest=true
 ·rw[if_pos c] at e5
  exact⟨rest,by rw[e1],⟨e2,e3.nd,e3.lo,e3.hi⟩,(j3 e2 hn).mp c,by lia⟩
 ·rw[if_neg c] at e5;lia
theorem Be {n:Nat}{fl:Nat->Bool}{os:List Int} (hn:1<=n) (o:Ord n os) (hf:cM os=aA n fl):0<=rkL n (jcV n fl) [] os/\rkL n (jcV n fl) [] os<jcV n fl []/\(grd n (jcV n fl) n [] (rkL n (jcV n fl) [] os)).1=os:=by
 have bf:=lK (fl:=fl) hn o.len
 rw[if_pos ((j3 o.len hn).mpr hf)] at bf
 obtain⟨a,b,c⟩:=DZ (gr fl hn) os [] 0 o.beg (NV _) (by rw[M1,bf];lia) (by simp[o.len])
 rw[PX,o.len] at c
 exact⟨a,by lia,by rw[c];rfl⟩
noncomputable def cH (n:Nat) (fl:Nat->Bool) (m:Nat):List Int:=(LK (m+1)).map fun(l:Nat)=>Jr n fl m l
noncomputable def fj (xs:List Int):D:=.frl (xs.map D.int)
noncomputable def jrD (n:Nat) (fl:Nat->Bool) (k:Nat):List D:=(LK k).map fun m=>fj (cH n fl m)
theorem mE {n:Nat}{fl:Nat->Bool}{m:Nat}:(cH n fl m).length=m+1:=by simp[cH]
theorem oX {n:Nat}{fl:Nat->Bool}{m l:Nat} (h:l<=m+1):((cH n fl m).take l).sum=sg (fun r=>Jr n fl m r) l:=by
 unfold cH sg
 rw[<- List.map_take,List.take_range,PQ h]
theorem rZ {n:Nat}{fl:Nat->Bool}{m:Nat}:(cH n fl m).sum=sg (fun r=>Jr n fl m r) (m+1):=rfl
theorem Cz {n:Nat}{fl:Nat->Bool}{m l:Nat} (h:l<=m+1) (hf:fl (n - 2 - m)=true):Jr n fl (m+1) l=((cH n fl m).take l).sum:=by
 rw[oX h]
 show sg (fun r=>if decide ((r:Int)<(l:Int))=fl (n - 2 - m) then Jr n fl m r else 0) (m+1)=_
 rw[hf]
 have e:=mH (fun r=>if decide ((r:Int)<(l:Int))=true then Jr n fl m r else 0) l (m+1 - l)
 rw[show l+(m+1 - l)=m+1 by lia] at e
 rw[e,iR (f:=fun i=>if decide (((l+i:Nat):Int)<(l:Int))=true then Jr n fl m ((l+i:Nat):Int) else 0) fun i _=>by
  rw[if_neg (by have:¬ (((l+i:Nat):Int)<(l:Int)):=by lia
                rw[decide_eq_false this];exact Mm)],PX]
 refine bE fun i hi=>?_
 have:((i:Int)<(l:Int)):=by lia
 simp[this]
theorem Cm {n:Nat}{fl:Nat->Bool}{m l:Nat} (h:l<=m+1) (hf:fl (n - 2 - m)=false):Jr n fl (m+1) l=((cH n fl m).drop l).sum:=by
 have t:=oX (n:=n) (fl:=fl) h
 have s:((cH n fl m).take l).sum+((cH n fl m).drop l).sum=(cH n fl m).sum:=by
  rw[<- OY,NH]
 rw[rZ,t] at s
 have e0:=mH (fun r=>Jr n fl m r) l (m+1 - l)
 rw[show l+(m+1 - l)=m+1 by lia] at e0
 show sg (fun r=>if decide ((r:Int)<(l:Int))=fl (n - 2 - m) then Jr n fl m r else 0) (m+1)=_
 rw[hf]
 have e:=mH (fun r=>if decide ((r:Int)<(l:Int))=false then Jr n fl m r else 0) l (m+1 - l)
 rw[show l+(m+1 - l)=m+1 by lia] at e
 rw[e,iR (f:=fun r=>if decide ((r:Int)<(l:Int))=false then Jr n fl m r else 0) fun i hi=>by
  have:((i:Int)<(l:Int)):=by lia
  simp[this],QX]
 have e2:sg (fun i=>if decide (((l+i:Nat):Int)<(l:Int))=false then Jr n fl m ((l+i:Nat):Int) else 0) (m+1 - l)=sg (fun i=>Jr n fl m ((l+i:Nat):Int)) (m+1 - l):=bE fun i hi=>by
  rw[if_pos (decide_eq_false (by lia))]
 rw[e2]
 lia
noncomputable def SRB:MS:=(az (aV 4 (ao dIx (ae 2) (cUn nD (cC (.int 1))))) (az (aV 5 (ao (dIn false) (ao bR (ao bR (ae 0) (cC (.int 1))) (ae 3)) (ae 1))) (cW (kQ eM (ae 2) (aa (bu aD (eS fC (aa (ao (bQ aD) (ae 3) (cC (.int 1))) aj)) [5,4] tt1 (ah gi (aa (cIf (aw eZ (ae 1)) (dn aD (ae 2) de (dR (ae 0))) (dn aD (ae 2) (dR (ae 0)) de)) aj))) aj)))))
theorem zG (n:Nat) (fl:Nat->Bool) (k:Nat):jrD n fl (k+1)=jrD n fl k++[fj (cH n fl k)]:=by unfold jrD;rw[Od,Oc];rfl
theorem xn {n:Nat}{fl:Nat->Bool}{k:Nat}:(jrD n fl k).length=k:=by simp[jrD]
theorem Dq {n:Nat}{fl:Nat->Bool}{m:Nat}{h:Hh} (hm:m<=30):bX tt1 (ah gi (aa (cIf (aw eZ (ae 1)) (dn aD (ae 2) de (dR (ae 0))) (dn aD (ae 2) (dR (ae 0)) de)) aj)) (fun x=>[some x,some (.bl (fl (n - 2 - m))),some (fj (cH n fl m))]) (bC 0 (m+2)) h=.ok ((cH n fl (m+1)).map D.int) h:=by
 rw[oY (fun l=>D.int (Jr n fl (m+1) l)) (fun l hl=>?_)]
 ·unfold cH;rw[Mf];rfl
 ·have ln:(cH n fl m).length=m+1:=mE
  cases hf:fl (n - 2 - m) with
  | true=>
   rw[Cz (by lia) hf]
   have ct:cutD ((cH n fl m).map D.int) none (some (l:Int))=((cH n fl m).take l).map D.int:=by rw[iw,wc]
   generalize (cH n fl m).take l=J2 at *
   generalize hj:(cH n fl m).map D.int=J at *
   simp[fj,hj,ct]
  | false=>
   rw[Cm (by lia) hf]
   have ct:cutD ((cH n fl m).map D.int) (some (l:Int)) none=((cH n fl m).drop l).map D.int:=by rw[iw,oV]
   generalize (cH n fl m).drop l=J2 at *
   generalize hj:(cH n fl m).map D.int=J at *
   simp[fj,hj,ct]
theorem tQ {n:Nat}{fl:Nat->Bool}{h:Hh} (h1:1<=n) (hn:n<=20):di [.int n,.tup ((aA n fl).map D.int)] h=.ok (.frl (jrD n fl n)) h:=by
 obtain⟨s,lp,ei⟩:=lL (σ:=List D × Option D × Option D × Option D) (tg:=gN 3) (body:=SRB) (fun(i:Nat)=>D.int (1+(i:Int))) (n - 1) (fun s=>[some (.int n),some (.tup ((aA n fl).map D.int)),some (.ref 0),s.2.1,s.2.2.1,s.2.2.2]) (fun s=>[.lst s.1]) (fun i s=>s.1=jrD n fl (i+1)) (fun i s hi hs=>by
  obtain⟨d,y3,y4,y5⟩:=s
  dsimp only at hs ⊢
  subst hs
  refine⟨(jrD n fl (i+2),some (.int (1+(i:Int))),some (fj (cH n fl i)),some (.bl (fl (n - 2 - i)))),rfl,?_⟩
  have la:ixK (jrD n fl (i+1)) (-1) [.lst (jrD n fl (i+1))]=.ok (fj (cH n fl i)) [.lst (jrD n fl (i+1))]:=by rw[zG];exact mS
  have q:=Dq (n:=n) (fl:=fl) (m:=i) (h:=[.lst (jrD n fl (i+1))]) (by lia)
  have ii:(n:Int) - 1 - (1+(i:Int))=((n - 2 - i:Nat):Int):=by lia
  have sa:=nE (n:=n) (fl:=fl) (p:=n - 2 - i) (by lia)
  have inn:=He (neg:=false) (i:=((n - 2 - i:Nat):Int)) (ns:=aA n fl) (h:=[.lst (jrD n fl (i+1))])
  rw[sa] at inn
  have z1:(1+(i:Int)+1).toNat=i+2:=by lia
  have z2:(1+(i:Int)+1).natAbs<=1000000:=by lia
  have z3:i+2<=1000000:=by lia
  have ll:(jrD n fl (i+1)).length<1000000:=by rw[xn];lia
  have ap:eM (.ref 0) [fj (cH n fl (i+1))] [.lst (jrD n fl (i+1))]=.ok .non [.lst (jrD n fl (i+2))]:=by
   rw[sW (show aH [O.lst (jrD n fl (i+1))] 0=some (jrD n fl (i+1)) from rfl),if_pos ll,zG n fl (i+1)];rfl
  have il:isL (.ref 0) [O.lst (jrD n fl (i+1))]=true:=rfl
  have ix:dIx (.ref 0) (.int (-1)) [O.lst (jrD n fl (i+1))]=.ok (fj (cH n fl i)) [O.lst (jrD n fl (i+1))]:=by rw[pG rfl];exact la
  rw[show fj (cH n fl (i+1))=D.frl ((cH n fl (i+1)).map D.int) from rfl] at ap
  generalize (cH n fl (i+1)).map D.int=W at *
  generalize fj (cH n fl i)=F at *
  generalize jrD n fl (i+1)=L1 at *
  generalize jrD n fl (i+2)=L2 at *
  generalize (aA n fl).map D.int=S at *
  simp[SRB,ix,ii,inn,z1,z2,z3,q,il,ap]) (n - 1) 0 (jrD n fl 1,none,none,none) (by lia) rfl
 obtain⟨d,y3,y4,y5⟩:=s
 dsimp only at lp ei
 rw[show n - 1+1=n by lia] at ei
 subst ei
 have ir:bC 1 (n - 1)=(P6 0 (n - 1)).map fun(i:Nat)=>D.int (1+(i:Int)):=by unfold bC;rw[N6]
 rw[<- ir] at lp
 have e2:di=x8 (fun ds h=>((b9 6 (az (aV 2 (ah (eB s_) (aa (ah (eB aD) (aa (cC (.int 1)) aj)) aj))) (az (eL (eS vG (aa (cC (.int 1)) (aa (ae 0) aj))) (gN 3) SRB) (aW (ae 2))))) ds h).bind (cV h)):=rfl
 have lo1:cn 0 [.int (n:Int),.tup ((aA n fl).map D.int)]=true:=by
  simp only[cn,iL,QI,QD];exact l9
 have lo2:iL 0 (.frl (jrD n fl n))=true:=by
  simp only[iL]
  exact kg fun d hd=>by
   obtain⟨m,_,rfl⟩:=L5.mp hd
   show cn 0 ((cH n fl m).map D.int)=true
   exact l9
 have ex:=yS (h:=[]) (t:=[]) (ds:=jrD n fl n) Wf.nil (by
  rw[L4]
  intro d hd
  obtain⟨m,_,rfl⟩:=L5.mp hd
  simp[fj,deep])
 have z2:(n:Int).natAbs<=1000000:=by lia
 have z3:((n:Int) - 1).toNat=n - 1:=by lia
 have z4:n - 1<=1000000:=by lia
 have z5:n<=1000000:=by lia
 have r0:jrD n fl 1=[.frl [.int 1]]:=rfl
 rw[r0] at lp
 simp only[M1,List.length_nil] at ex
 rw[e2]
 generalize jrD n fl n=W at *
 generalize (aA n fl).map D.int=S at *
 simp[x8,lo1,bq,s_,z2,z3,z4,z5,lp,ex,lo2]
theorem Hz {n:Nat}{fl:Nat->Bool}{m:Nat}{i:Int}{h:Hh} (e:i=(m:Int)) (hm:m<n):ixK (jrD n fl n) i h=.ok (fj (cH n fl m)) h:=lU e (by rw[jrD,Me,PJ hm];rfl)
theorem Ij {n:Nat}{fl:Nat->Bool}{xs:List Int}{h:Hh} (b:Beg n xs) (h1:1<=n) (hn:n<=20):aZ [.frl (jrD n fl n),.tup ((aA n fl).map D.int),.tup (xs.map D.int)] h=.ok (.int (jcV n fl xs)) h:=by
 have bl:=b.len
 have ln:(((jrD n fl n).length:Nat):Int)=n:=by rw[xn]
 have lx:(((xs.map D.int).length:Nat):Int)=xs.length:=by rw[LQ]
 unfold jcV
 by_cases c:xs.length=0
 ·rw[if_pos c]
  have:xs=[]:=Nh c
  subst this
  have la:ixK (jrD n fl n) (-1) h=.ok (fj (cH n fl (n - 1))) h:=by
   obtain⟨m,rfl⟩:∃m,n=m+1:=⟨n - 1,by lia⟩
   rw[zG];exact mS
  have su:(cH n fl (n - 1)).sum=sg (fun r=>Jr n fl (n - 1) r) n:=by
   rw[rZ,show n - 1+1=n by lia]
  rw[<- su]
  generalize cH n fl (n - 1)=J at *
  generalize jrD n fl n=W at *
  generalize (aA n fl).map D.int=S at *
  simp[aZ,bq,la,fj]
 ·rw[if_neg c]
  have c':¬ (xs.length:Int)=0:=by lia
  have c0:¬ xs=[]:=fun z=>c (by rw[z];rfl)
  have fa:=zX (xs:=xs) (h:=h) (by lia)
  have lo:=zu (xs:=xs) (h:=h) (by lia)
  have q:bX (aw asB (ao dLt (ae 0) (ao bR (ah dJ (aa (ae 1) aj)) (cC (.int 1))))) (ae 0) (fun x=>[some x,some (.tup (xs.map D.int))]) ((aA n fl).map D.int) h=.ok (((aA n fl).filter fun x=>decide (x<(xs.length:Int) - 1)).map D.int) h:=
   comp_map D.int (fun x=>decide (x<(xs.length:Int) - 1)) D.int (aA n fl) fun x hx=>⟨by simp,fun _=>by simp⟩
  have eq:=G4 (h:=h) (xs:=cM xs) (ys:=(aA n fl).filter fun x=>decide (x<(xs.length:Int) - 1))
  have fi:=wQ (n:=n) (fl:=fl) bl c
  have ls:((aA n fl).map D.int).length<=1000000:=by
   rw[LQ,aA,LQ]
   have:=NJ fl (LK (n - 1))
   simp at this;lia
  have lf:(((aA n fl).filter fun x=>decide (x<(xs.length:Int) - 1)).map D.int).length<=1000000:=by
   rw[LQ]
   have:=NJ (fun x=>decide (x<(xs.length:Int) - 1)) (aA n fl)
   rw[LQ] at ls
   lia
  have ne:dNe (.tup ((cM xs).map D.int)) (.tup (((aA n fl).filter fun x=>decide (x<(xs.length:Int) - 1)).map D.int)) h=.ok (.bl (!decide (fok fl xs=true))) h:=by
   have e:eqD eqN h (.tup ((cM xs).map D.int)) (.tup (((aA n fl).filter fun x=>decide (x<(xs.length:Int) - 1)).map D.int))=some (decide (cM xs=(aA n fl).filter fun x=>decide (x<(xs.length:Int) - 1))):=fE 10 h _ _
   simp only[dNe,e]
   congr 3
   exact decide_eq_decide.mpr fi
  obtain⟨l0,l1⟩:=HE b
  have r1:ixK (jrD n fl n) ((n:Int) - xs.length) h=.ok (fj (cH n fl (n - xs.length))) h:=Hz (by lia) (by lia)
  have r2:dIx (fj (cH n fl (n - xs.length))) (.int (lwI xs)) h=.ok (.int (Jr n fl (n - xs.length) (lwI xs))) h:=by
   show ixK ((cH n fl (n - xs.length)).map D.int) (lwI xs) h=_
   rw[jT (j:=(lwI xs).toNat) (by lia) (by rw[mE];lia),eD (by rw[mE];lia)]
   simp only[cH,List.getElem_map,List.getElem_range]
   rw[show(((lwI xs).toNat:Nat):Int)=lwI xs by lia]
  generalize ((aA n fl).filter fun x=>decide (x<(xs.length:Int) - 1)).map D.int=SF at *
  generalize (cM xs).map D.int=F1 at *
  generalize fj (cH n fl (n - xs.length))=JJ at *
  generalize jrD n fl n=W at *
  generalize (aA n fl).map D.int=S at *
  generalize Jr n fl (n - xs.length) (lwI xs)=V at *
  generalize hl:(xs.length:Int)=L at *
  generalize xs.map D.int=X at *
  cases hf:fok fl xs with
  | true=>
   rw[hf] at ne
   simp[aZ,bq,lx,c',fa,ls,q,lf,ne,ln,r1,lo,r2]
  | false=>
   rw[hf] at ne
   simp[aZ,bq,lx,c',fa,ls,q,lf,ne]
theorem jg {n:Nat}{fl:Nat->Bool}{h:Hh} (h1:1<=n) (hn:n<=20):a_ [.int n,.tup ((aA n fl).map D.int)] h=.ok (.clo "just_count" [.frl (jrD n fl n),.tup ((aA n fl).map D.int)]) h:=by
 have r:=tQ (n:=n) (fl:=fl) (h:=h) h1 hn
 delta a_ CG
 simp[r,vH]
theorem qH {n:Nat}{fl:Nat->Bool} (h1:1<=n) (hn:n<=20):uv n (jcV n fl) (.clo "just_count" [.frl (jrD n fl n),.tup ((aA n fl).map D.int)]):=⟨_,_,3,aZ,rfl,lr,rfl,fun xs h b=>Ij b h1 hn⟩
noncomputable def fll (n:Nat) (B:List Int->Int):Nat->List (List Int)
 | 0=>[[]]
 | m+1=>(fll n B m).flatMap fun xs=>(nxB n B xs).map fun x=>xs++[x]
noncomputable def wsm (B:List Int->Int) (L:List (List Int)):Int:=(L.map B).sum
theorem xP:wsm B (L1++L2)=wsm B L1+wsm B L2:=by unfold wsm;simp
theorem tm:wsm B (x::L)=B x+wsm B L:=by rfl
theorem xi:wsm B (l.map fun x=>xs++[x])=cS B xs l:=by unfold wsm cS;rw[Mf];rfl
theorem ft {n:Nat}{B:List Int->Int}:∀m,∀xs∈fll n B m,xs.length=m/\Beg n xs
 | 0,xs,h=>by simp[fll] at h;subst h;exact⟨rfl,Beg.nil n⟩
 | m+1,xs,h=>by
  unfold fll at h
  obtain⟨ys,hy,hx⟩:=List.mem_flatMap.mp h
  obtain⟨x,hz,rfl⟩:=L5.mp hx
  obtain⟨l,b⟩:=ft m ys hy
  exact⟨by simp[l],b.snoc (gT hz)⟩
theorem sd {n:Nat}{B:List Int->Int} (C:Cnt n B):∀{L:List (List Int)},(∀xs∈L,Beg n xs/\xs.length<n)->wsm B (L.flatMap fun xs=>(nxB n B xs).map fun x=>xs++[x])=wsm B L
 | [],_=>rfl
 | xs::L,h=>by
  obtain⟨b,l⟩:=h xs LL
  rw[Pe,xP,sd C fun ys hy=>h ys (td _ hy),tm,xi,C.nx b l]
theorem sN {n:Nat}{B:List Int->Int} (C:Cnt n B){t:Int} (h0:0<=t) (h1:t<B []):∀m,m<=n->∃xs t' L1 L2,fll n B m=L1++xs::L2/\t'=t - wsm B L1/\0<=t'/\t'<B xs/\grd n B (n - m) xs t'=grd n B n [] t
 | 0,_=>⟨[],t,[],[],rfl,by simp[wsm],h0,h1,rfl⟩
 | m+1,hm=>by
  obtain⟨xs,t',L1,L2,e1,e2,e3,e4,e5⟩:=sN C h0 h1 m (by lia)
  obtain⟨l,b⟩:=ft m xs (by rw[e1];simp)
  have e4':=e4
  rw[<- C.nx b (by lia)] at e4'
  obtain⟨x,u,l1,l2,p1,p2,p3,p4,p5⟩:=lO e3 e4'
  refine⟨xs++[x],u,(L1.flatMap fun xs=>(nxB n B xs).map fun x=>xs++[x])++l1.map fun x=>xs++[x],(l2.map fun x=>xs++[x])++L2.flatMap fun xs=>(nxB n B xs).map fun x=>xs++[x],?_,?_,p4,p5,?_⟩
  ·unfold fll
   simp_all
  ·rw[xP,xi,sd C fun ys hy=>by
    obtain⟨l,b⟩:=ft m ys (by rw[e1];simp[hy])
    grind]
   lia
  ·rw[<- e5,show n - m=(n - (m+1))+1 by lia]
   show _=(match gz B xs (nxB n B xs) t' with | some (x,t')=>grd n B (n - (m+1)) (xs++[x]) t' | none=>(xs,t'))
   rw[p2]
theorem wk {B:List Int->Int}:∀{L:List (List Int)},(∀xs∈L,B xs=1)->wsm B L=L.length
 | [],_=>rfl
 | x::L,h=>by rw[tm,h x LL,wk fun y hy=>h y (td _ hy),Mi];lia
theorem BJ (h0:0<B []):∀m,∀xs∈fll n B m,0<B xs
 | 0,xs,h=>by simp[fll] at h;simp_all
 | m+1,xs,h=>by
  unfold fll at h
  obtain⟨ys,hy,hx⟩:=List.mem_flatMap.mp h
  obtain⟨x,hz,rfl⟩:=L5.mp hx
  have:=(Mj.mp hz).2
  simp_all
theorem Dj (h0:0<B []) (F:∀xs,Beg n xs->xs.length=n->B xs=0\/B xs=1):∀xs∈fll n B n,B xs=1:=fun xs hx=>by
 obtain⟨l,b⟩:=ft n xs hx
 have:=BJ h0 n xs hx
 grind
theorem Aw (C:Cnt n B) (F:∀xs,Beg n xs->xs.length=n->B xs=0\/B xs=1){t:Nat} (h1:(t:Int)<B []):(fll n B n)[t]?=some (grd n B n [] t).1:=by
 obtain⟨xs,t',L1,L2,e1,e2,e3,e4,e5⟩:=sN C (t:=(t:Int)) (by lia) h1 n (LH _)
 have one:=Dj (by lia) F
 have w:wsm B L1=L1.length:=wk fun ys hy=>one ys (by simp_all)
 have o1:=one xs (by simp_all)
 have:L1.length=t:=by lia
 rw[QV] at e5
 rw[<- e5,e1,<- this]
 show(L1++xs::L2)[L1.length]?=some xs
 simp
noncomputable def bD (n:Nat) (xs:List Int):List Int:=xs.map fun x=>(n:Int) - 1 - x
theorem f6 {n:Nat}{xs:List Int}:(bD n xs).length=xs.length:=by simp[bD]
theorem xx {n:Nat}{xs ys:List Int}:bD n (xs++ys)=bD n xs++bD n ys:=by simp[bD]
theorem A6 {n:Nat}{xs:List Int}{x:Int}:((n:Int) - 1 - x)∈bD n xs↔x∈xs:=by
 unfold bD
 rw[L5]
 constructor
 ·rintro⟨y,hy,e⟩
  have:y=x:=by lia
  exact this ▸ hy
 ·exact fun h=>⟨x,h,rfl⟩
theorem wV {n:Nat}{xs:List Int} (b:Beg n xs):Beg n (bD n xs):=by
 refine⟨by rw[f6];exact b.len,?_,fun x hx=>?_,fun x hx=>?_⟩
 ·unfold bD Rh
  rw[MH]
  exact b.nd.imp fun h e=>h (by lia)
 ·obtain⟨y,hy,rfl⟩:=L5.mp hx;have:=b.hi y hy;lia
 ·obtain⟨y,hy,rfl⟩:=L5.mp hx;have:=b.lo y hy;lia
theorem Di (n:Nat):fM 0 n=(bD n (fM 0 n)).reverse:=by
 refine Pn (by simp[bD]) fun i h1 h2=>?_
 have h3:i<n:=by simpa [fM] using h1
 simp[bD,fM]
 lia
theorem B3 {n:Nat}{xs:List Int}{x:Int}:(bD n xs).any (· == (n:Int) - 1 - x)=xs.any (· == x):=by
 rw[M3,M8,M8]
 constructor
 ·rintro⟨y,hy,e⟩
  rw[beq_iff_eq.mp e] at hy
  exact⟨x,A6.mp hy,by simp⟩
 ·rintro⟨y,hy,e⟩
  rw[beq_iff_eq.mp e] at hy
  exact⟨_,A6.mpr hy,by simp⟩
theorem mR {n:Nat}{xs:List Int}:aQ n (bD n xs)=(bD n (aQ n xs)).reverse:=by
 unfold aQ
 conv=>lhs;rw[Di]
 rw[PR]
 congr 1
 unfold bD
 rw[Oe]
 congr 1
 refine Na fun x _=>?_
 show(!(bD n xs).any (· == (n:Int) - 1 - x))=_
 rw[B3]
theorem AU {n:Nat}{xs:List Int} (h:xs.length≠0):bL (bD n xs)=(n:Int) - 1 - bL xs:=by
 unfold bL
 rw[f6,eD (by rw[f6];lia),eD (by lia)]
 simp[bD]
theorem E7 {n:Nat}{xs:List Int} (b:Beg n xs) (h:xs.length≠0):lwI (bD n xs)=((n - xs.length:Nat):Int) - lwI xs:=by
 rw[<- iK (wV b) (by rw[f6];exact h),<- iK b h,mR,AU h,<- gF b,PR,OR]
 unfold bD
 rw[Oe,LQ]
 have:∀(l:List Int),(∀x∈l,x≠bL xs)->((l.filter ((fun x=>decide (x<(n:Int) - 1 - bL xs)) ∘ fun x=>(n:Int) - 1 - x)).length:Int)=l.length - (l.filter fun x=>decide (x<bL xs)).length:=by
  intro l
  induction l with
  | nil=>intro _;rfl
  | cons a l ih=>
   intro hl
   have ne:=hl a LL
   have ih:=ih fun x hx=>hl x (td _ hx)
   rw[L_,L_]
   by_cases c:a<bL xs
   ·have c2:¬ (n:Int) - 1 - a<(n:Int) - 1 - bL xs:=by lia
    simp only[Function.comp,c,c2,decide_true,decide_false,if_true,MW,if_false,Mi] at ih ⊢
    lia
   ·have c2:(n:Int) - 1 - a<(n:Int) - 1 - bL xs:=by lia
    simp only[Function.comp,c,c2,decide_true,decide_false,if_true,MW,if_false,Mi] at ih ⊢
    lia
 exact this _ fun x hx e=>by
  have:=(Mj.mp hx).2
  rw[e] at this
  have:xs.any (· == bL xs)=true:=M8.mpr ⟨_,xv h,by simp⟩
  simp_all
theorem rz {B:List Int->Int}{xs:List Int}:∀{l:List Int},cS B xs l.reverse=cS B xs l
 | []=>rfl
 | x::l=>by
  rw[List.reverse_cons,wR,bw,rz,bw]
  have:cS B xs []=0:=rfl
  lia
theorem p9 {n:Nat}{B B':List Int->Int}{xs:List Int} (hc:∀xs,Beg n xs->xs.length≠0->B' (bD n xs)=B xs) (b:Beg n xs):∀{l:List Int},(∀x∈l,x∈aQ n xs)->cS B' (bD n xs) (bD n l)=cS B xs l
 | [],_=>rfl
 | x::l,h=>by
  show cS _ _ (((n:Int) - 1 - x)::bD n l)=_
  rw[bw,bw,p9 hc b fun y hy=>h y (td _ hy)]
  have:=hc _ (b.snoc (h x LL)) (by simp)
  rw[xx] at this
  rw[<- this];rfl
theorem pK {y:Int}:∀{l:List Int},l.Nodup->y∈l->∀(B:List Int->Int) (xs:List Int),cS B xs (l.filter fun x=>decide (x<y))+B (xs++[y])+cS B xs (l.filter fun x=>decide (y<x))=cS B xs l
 | [],_,h,_,_=>by cases h
 | a::l,nd,h,B,xs=>by
  obtain⟨n1,n2⟩:=N9.mp nd
  rw[L_,L_,bw]
  by_cases c:a=y
  ·subst c
   have e:∀z,(∀q∈l,q≠z)->cS B xs (l.filter fun x=>decide (x<z))+cS B xs (l.filter fun x=>decide (z<x))=cS B xs l:=by
    intro z
    clear nd h n1 n2
    induction l with
    | nil=>intro _;rfl
    | cons q l ih=>
     intro hz
     have ne:=hz q LL
     have ih:=ih fun x hx=>hz x (td _ hx)
     rw[L_,L_,bw]
     by_cases d:q<z
     ·have d2:¬ z<q:=by lia
      simp only[d,d2,decide_true,decide_false,if_true,MW,if_false,bw];lia
     ·have d2:z<q:=by lia
      simp only[d,d2,decide_true,decide_false,if_true,MW,if_false,bw];lia
   have:=e a fun q hq z=>n1 (z ▸ hq)
   simp only[Int.lt_irrefl,decide_false,MW,if_false]
   lia
  ·have hm:y∈l:=by
    rcases LR.mp h with z | z
    ·exact absurd z.symm c
    ·exact z
   have ih:=pK n2 hm B xs
   by_cases d:a<y
   ·have d2:¬ y<a:=by lia
    simp only[d,d2,decide_true,decide_false,if_true,MW,if_false,bw];lia
   ·have d2:y<a:=by lia
    simp only[d,d2,decide_true,decide_false,if_true,MW,if_false,bw];lia
theorem AN {n:Nat}{B B':List Int->Int} (C:Cnt n B) (hc:∀xs,Beg n xs->xs.length≠0->B' (bD n xs)=B xs):∀(rest xs:List Int),Beg n (xs++rest)->rkL n B' (bD n xs) (bD n rest)+rkL n B xs rest=B xs - B (xs++rest)
 | [],xs,b=>by show 0+0=_;rw[NF];lia
 | y::rest,xs,b=>by
  have e:xs++y::rest=(xs++[y])++rest:=by simp
  rw[e] at b ⊢
  have ih:=AN C hc rest (xs++[y]) b
  have bx:Beg n (xs++[y]):=by have:=b.take (xs++[y]).length;rwa [O0 rfl] at this
  have b0:Beg n xs:=by have:=bx.take xs.length;rwa [O0 rfl] at this
  have yl:y∈aQ n xs:=by
   refine Mj.mpr ⟨?_,?_⟩
   ·have:=bx.lo y (by simp);have:=bx.hi y (by simp)
    exact L5.mpr ⟨y.toNat,Mt.mpr (by lia),by lia⟩
   ·have nd:=bx.nd
    rw[List.nodup_append] at nd
    have:xs.any (· == y)=false:=by
     rw[O8];intro z hz q
     exact nd.2.2 z hz y (by simp) (beq_iff_eq.mp q)
    rw[this];rfl
  have bl:=bx.len
  have s:=C.sum xs b0 (by simp at bl;lia)
  have lp:=pK ((lW n xs).imp fun h=>by lia) yl B xs
  show cS B' (bD n xs) ((aQ n (bD n xs)).filter fun x=>decide (x<(n:Int) - 1 - y))+rkL n B' (bD n xs++[(n:Int) - 1 - y]) (bD n rest)+(cS B xs ((aQ n xs).filter fun x=>decide (x<y))+rkL n B (xs++[y]) rest)=_
  rw[xx] at ih
  have ih:rkL n B' (bD n xs++[(n:Int) - 1 - y]) (bD n rest)+rkL n B (xs++[y]) rest=B (xs++[y]) - B (xs++[y]++rest):=ih
  have fe:((aQ n (bD n xs)).filter fun x=>decide (x<(n:Int) - 1 - y))=(bD n ((aQ n xs).filter fun x=>decide (y<x))).reverse:=by
   rw[mR,PR]
   congr 1
   unfold bD
   rw[Oe]
   congr 1
   refine Na fun x _=>?_
   show decide ((n:Int) - 1 - x<(n:Int) - 1 - y)=decide (y<x)
   by_cases c:y<x
   ·have:(n:Int) - 1 - x<(n:Int) - 1 - y:=by lia
    simp[c,this]
   ·have:¬ (n:Int) - 1 - x<(n:Int) - 1 - y:=by lia
    simp[c,this]
  rw[fe,rz,p9 hc b0 fun x hx=>(Mj.mp hx).1]
  rw[show((aQ n xs).map fun x=>B (xs++[x])).sum=cS B xs (aQ n xs) from rfl] at s
  lia
noncomputable def tpI (b:List Int):D:=.tup (b.map D.int)
structure Sub (m:Nat) (S:List Int):Prop where
 up:S.Pairwise (· < ·)
 inn:∀x∈S,0<=x/\x<(m:Int)
theorem As:∀{L M:List Int},L.Pairwise (· < ·)->M.Pairwise (· < ·)->(∀x,x∈L↔x∈M)->L=M
 | [],[],_,_,_=>rfl
 | [],b::M,_,_,h=>by have:=(h b).mpr LL;cases this
 | a::L,[],_,_,h=>by have:=(h a).mp LL;cases this
 | a::L,b::M,s1,s2,h=>by
  obtain⟨a1,a2⟩:=L6.mp s1
  obtain⟨b1,b2⟩:=L6.mp s2
  have e:a=b:=by
   rcases LR.mp ((h a).mp LL) with z | z
   ·exact z
   ·rcases LR.mp ((h b).mpr LL) with y | y
    ·exact y.symm
    ·have:=b1 a z;have:=a1 b y;lia
  subst e
  congr 1
  refine As a2 b2 fun x=>⟨fun hx=>?_,fun hx=>?_⟩
  ·rcases LR.mp ((h x).mp (td _ hx)) with z | z
   ·have:=a1 x hx;lia
   ·exact z
  ·rcases LR.mp ((h x).mpr (td _ hx)) with z | z
   ·have:=b1 x hx;lia
   ·exact z
theorem wY {n:Nat}{fl:Nat->Bool}:(aA n fl).Pairwise (· < ·):=by
 unfold aA
 rw[MH]
 exact(O7.filter _).imp fun h=>by lia
theorem xh {n:Nat}{fl:Nat->Bool}{x:Int}:x∈aA n fl↔∃i:Nat,i<n - 1/\fl i=true/\x=i:=by
 unfold aA
 constructor
 ·intro h
  obtain⟨i,hi,rfl⟩:=L5.mp h
  obtain⟨a,b⟩:=Mj.mp hi
  exact⟨i,Mt.mp a,b,rfl⟩
 ·rintro⟨i,a,b,rfl⟩
  exact L5.mpr ⟨i,Mj.mpr ⟨Mt.mpr a,b⟩,rfl⟩
theorem AV {n:Nat}{S:List Int} (s:Sub (n - 1) S):S=aA n fun i=>S.any (· == (i:Int)):=by
 refine As s.up wY fun x=>?_
 rw[xh]
 constructor
 ·intro h
  have:=s.inn x h
  exact⟨x.toNat,by lia,M8.mpr ⟨x,h,by simp;lia⟩,by lia⟩
 ·rintro⟨i,a,b,rfl⟩
  obtain⟨y,hy,e⟩:=M8.mp b
  exact beq_iff_eq.mp e ▸ hy
theorem fP (n:Nat) (fl:Nat->Bool):Sub (n - 1) (aA n fl):=⟨wY,fun x hx=>by
 obtain⟨i,a,_,rfl⟩:=xh.mp hx;lia⟩
theorem wm {n:Nat}{S:List Int}{h:Hh}{d1:Option D}:∀(S:List Int) (l:Int) (y:Option D),0<=l->S.Pairwise (· < ·)->(∀x∈S,l<=x/\x<((n - 1:Nat):Int))->∃l' z,eJ (gN 3) (az (bV (d_ (aw eZ (ah bI (aa (ae 3) (aa (ae 2) (aa (ao bR (ae 0) (cC (.int 2))) aj)))))) (aW (cC (.bl false))) a9) (aV 2 (ao (bQ aD) (ae 3) (cC (.int 1))))) (S.map D.int) [some (.int n),d1,some (.int l),y] h=.ok (.nx [some (.int n),d1,some (.int l'),z]) h
 | [],l,y,_,_,_=>⟨l,y,rfl⟩
 | x::S,l,y,l0,so,hs=>by
  obtain⟨s1,s2⟩:=L6.mp so
  have hx:=hs x LL
  obtain⟨l',z,q⟩:=wm (n:=n) (S:=S) (h:=h) (d1:=d1) S (x+1) (some (.int x)) (by lia) s2 (fun y hy=>by
   have:=s1 y hy;have:=hs y (td _ hy);lia)
  refine⟨l',z,?_⟩
  rw[LW,rH]
  have c:l<=x/\x<=(n:Int) - 2:=by lia
  have st:(az (bV (d_ (aw eZ (ah bI (aa (ae 3) (aa (ae 2) (aa (ao bR (ae 0) (cC (.int 2))) aj)))))) (aW (cC (.bl false))) a9) (aV 2 (ao (bQ aD) (ae 3) (cC (.int 1))))) [some (.int n),d1,some (.int l),some (.int x)] h=.ok (.nx [some (.int n),d1,some (.int (x+1)),some (.int x)]) h:=by simp[c]
  simp[c,q]
theorem gM {n:Nat}{S:List Int}{h:Hh} (h1:1<=n) (hn:n<=12) (s:Sub (n - 1) S):bh [.int n,.tup (S.map D.int)] h=.ok .non h:=by
 have z0:(1:Int)<=n/\(n:Int)<=12:=by lia
 obtain⟨l',z,q⟩:=wm (n:=n) (S:=S) (h:=h) (d1:=some (.tup (S.map D.int))) S 0 none (by lia) s.up s.inn
 simp[bh,hZ,bq,z0,q]
noncomputable def subs:Nat->List (List Int)
 | 0=>[[]]
 | m+1=>subs m++(subs m).map (·++[(m:Int)])
theorem Sub.mem:∀{m:Nat}{S:List Int},Sub m S->S∈subs m
 | 0,[],_=>by simp[subs]
 | 0,x::r,s=>by have:=s.inn x (by simp);lia
 | m+1,S,s=>by
  by_cases z:((m:Nat):Int)∈S
  ·obtain⟨a,b,e⟩:=List.append_of_mem z
   have hb:b=[]:=by
    cases b with
    | nil=>rfl
    | cons y b=>
     have up:=s.up
     rw[e] at up
     have:=(L8.mp up).2.1
     have h1:=(L6.mp this).1 y (by simp)
     have h2:=s.inn y (by rw[e];simp)
     lia
   subst hb
   have sa:Sub m a:=⟨by have:=s.up;rw[e] at this;exact(L8.mp this).1,fun x hx=>by
    have h1:=s.inn x (by rw[e];simp[hx])
    have up:=s.up
    rw[e] at up
    have h2:=(L8.mp up).2.2 x hx (m:Int) (by simp)
    lia⟩
   rw[subs,e]
   exact tv _ (L5.mpr ⟨a,sa.mem,rfl⟩)
  ·rw[subs]
   refine OG _ (Sub.mem (m:=m) ⟨s.up,fun x hx=>?_⟩)
   have h1:=s.inn x hx
   have:x≠(m:Int):=fun e=>z (e ▸ hx)
   lia
theorem Sub.len {m:Nat}{S:List Int} (s:Sub m S):S.length<=m:=by
 have key:∀(m:Nat),∀T∈subs m,T.length<=m:=by
  intro m
  induction m with
  | zero=>intro T h;simp[subs] at h;subst h;simp
  | succ m ih=>
   intro T h
   rcases Ml.mp h with h | h
   ·have:=ih T h;lia
   ·obtain⟨U,hU,rfl⟩:=L5.mp h
    have:=ih U hU
    simp;lia
 exact key m S s.mem
theorem pH {X:Type}{tt:MT}{te:ME}{ee:D->En} (enc:X->D) (G:Pen->Hh) (st:∀x p,∃b p',tt (ee (enc x)) (G p)=.ok b (G p')/\te (ee (enc x)) (G p')=.ok (enc x) (G p')) :
  ∀(xs:List X) (p:Pen),∃(ys:List X) (p':Pen),bX tt te ee (xs.map enc) (G p)=.ok (ys.map enc) (G p')/\ys.Sublist xs
 | [],p=>⟨[],p,rfl,.slnil⟩
 | x::xs,p=>by
  obtain⟨b,p1,e1,e2⟩:=st x p
  obtain⟨ys,p2,e3,s⟩:=pH enc G st xs p1
  rw[LW,bX,e1,cu]
  cases b with
  | false=>exact⟨ys,p2,by rw[if_neg Mm,e3],s.cons _⟩
  | true=>exact⟨x::ys,p2,by rw[if_pos rfl,e2,cu,e3,cu];rfl,s.cons₂ _⟩
theorem Co (m:Nat):Sub m ((LK m).map fun(i:Nat)=>(i:Int)):=by
 refine⟨?_,fun x hx=>?_⟩
 ·rw[MH]
  exact O7.imp fun h=>by lia
 ·obtain⟨i,hi,rfl⟩:=L5.mp hx
  have:=Mt.mp hi
  lia
theorem Sub.sub {m:Nat}{S T:List Int} (s:Sub m S) (h:T.Sublist S):Sub m T:=⟨s.up.sublist h,fun x hx=>s.inn x (h.subset hx)⟩
theorem FR {n:Nat}{p:Pen}{h t:Hh} (h1:1<=n) (hn:n<=12):∃T p',Sub (n - 1) T/\dN [.ref h.length,.int n] (h++.lst (gO p)::t)=.ok (.tup (T.map D.int)) (h++.lst (gO p')::t):=by
 obtain⟨k,ek,hk⟩:=DX p 3 (by decide)
 obtain⟨a,b,ha,hb,ix⟩:∃a b:Int,0<a/\a<=10/\∀H:Hh,ixK [.frl [.int 2,.int 1],.frl [.int 4,.int 1],.frl [.int 4,.int 3]] (k:Int) H=.ok (.frl [.int a,.int b]) H:=by
  match k,hk with
  | 0,_=>exact⟨2,1,by decide,by decide,fun _=>rfl⟩
  | 1,_=>exact⟨4,1,by decide,by decide,fun _=>rfl⟩
  | 2,_=>exact⟨4,3,by decide,by decide,fun _=>rfl⟩
 have hab:0<a/\a<=10 ^ 20:=by lia
 obtain⟨ys,p',q,sub⟩:=pH (tt:=aw asB (ao dLt (ah aI (aa (ae 1) (aa (ao dIx (ae 2) (cC (.int 0))) aj))) (ao dIx (ae 2) (cC (.int 1))))) (te:=ae 0) (ee:=fun d=>[some d,some (.ref h.length),some (.frl [.int a,.int b])]) (fun(i:Nat)=>D.int i) (fun p=>h++.lst (gO p)::t)
  (fun x p=>⟨decide (eF p a<b),h_ p a,by
   have:=gY (p:=p) (h:=h) (t:=t) hab
   simp[this],by simp⟩) (LK (n - 1)) (h_ p 3)
 rw[<- cX] at q
 have z1:((n:Int) - 1).natAbs<=1000000:=by lia
 have z2:((n:Int) - 1).toNat=n - 1:=by lia
 have z3:n - 1<=1000000:=by lia
 refine⟨ys.map fun(i:Nat)=>(i:Int),p',(Co (n - 1)).sub (sub.map _),?_⟩
 have d3:=gY (p:=p) (h:=h) (t:=t) (m:=3) (by decide)
 rw[ek] at d3
 have mm:(ys.map fun(i:Nat)=>(i:Int)).map D.int=ys.map fun(i:Nat)=>D.int i:=by rw[Mf];rfl
 rw[mm]
 simp[dN,bq,d3,ix,z1,z2,z3,q]
theorem wy {f:Nat->Int}:∀{n r:Nat},(∀i,i<n->0<=f i)->r<n->f r<=sg f n
 | 0,r,_,h=>by lia
 | n+1,r,p,h=>by
  rw[iV]
  have nn:∀k,k<=n->0<=sg f k:=fun k hk=>by
   induction k with
   | zero=>exact NV _
   | succ k ih=>rw[iV];have:=ih (by lia);have:=p k (by lia);lia
  by_cases c:r=n
  ·subst c;have:=nn r (LH _);lia
  ·have:=wy (f:=f) (n:=n) (r:=r) (fun i hi=>p i (by lia)) (by lia)
   have:=p n (by lia);lia
theorem Bs {n:Nat}{fl:Nat->Bool}:∀m,∃r:Nat,r<=m/\0<Jr n fl m r
 | 0=>⟨0,LH _,by show(0:Int)<1;lia⟩
 | m+1=>by
  obtain⟨r,hr,hp⟩:=Bs (n:=n) (fl:=fl) m
  cases hf:fl (n - 2 - m) with
  | true=>
   refine⟨m+1,LH _,?_⟩
   have g:=wy (f:=fun r=>if decide ((r:Int)<((m+1:Nat):Int))=fl (n - 2 - m) then Jr n fl m r else 0) (n:=m+1) (r:=r) (fun i _=>by have:=(kU n fl m i).1;split<;>lia) (by lia)
   rw[if_pos (by rw[hf,decide_eq_true (by lia)])] at g
   exact PY hp g
  | false=>
   refine⟨0,Nj _,?_⟩
   have g:=wy (f:=fun r=>if decide ((r:Int)<((0:Nat):Int))=fl (n - 2 - m) then Jr n fl m r else 0) (n:=m+1) (r:=r) (fun i _=>by have:=(kU n fl m i).1;split<;>lia) (by lia)
   rw[if_pos (by rw[hf,decide_eq_false (by lia)])] at g
   exact PY hp g
theorem Ew {n:Nat}{fl:Nat->Bool} (h1:1<=n):0<jcV n fl []:=by
 obtain⟨r,hr,hp⟩:=Bs (n:=n) (fl:=fl) (n - 1)
 have g:=wy (f:=fun r=>Jr n fl (n - 1) r) (n:=n) (r:=r) (fun i _=>(kU n fl _ _).1) (by lia)
 exact PY hp g
theorem Iz {n:Nat}{fl:Nat->Bool} (h1:1<=n):∀xs,Beg n xs->xs.length=n->jcV n fl xs=0\/jcV n fl xs=1:=fun xs _ l=>by
 rw[lK h1 l];split
 ·exact .inr rfl
 ·exact .inl rfl
theorem oG {n:Nat}{fl:Nat->Bool}{i:Nat}{env:En}{h:Hh} (h1:1<=n) (hn:n<=12) (e:ae i env h=.ok (.clo "just_count" [.frl (jrD n fl n),.tup ((aA n fl).map D.int)]) h):gk gS (ae i) (aa (ah d8 aj) aj) env h=.ok (.int (jcV n fl [])) h:=
 nF (h1:=h) (h2:=h) (qH h1 (by lia)) (Beg.nil n) e (by simp)
theorem JK {n:Nat}{fl:Nat->Bool}{h:Hh} (h1:1<=n) (hn:n<=12) (h0:0<jcV n fl []):cx [.int n,.tup ((aA n fl).map D.int)] h=.ok (.tup ((grd n (jcV n fl) n [] 0).1.map D.int)) h:=by
 have a:=gM (h:=h) h1 hn (fP n fl)
 have jc:=jg (n:=n) (fl:=fl) (h:=h) h1 (by lia)
 have e:=u4 (h:=h) (t:=0) (gr fl h1) (qH h1 (by lia)) (by lia) (by lia) h0
 generalize (grd n (jcV n fl) n [] 0).1.map D.int=X at *
 generalize jrD n fl n=J at *
 generalize (aA n fl).map D.int=S at *
 simp[cx,bq,a,jc,e]
theorem JY {n:Nat}{fl:Nat->Bool}{h:Hh} (h1:1<=n) (hn:n<=12) (h0:0<jcV n fl []):cN [.int n,.tup ((aA n fl).map D.int)] h=.ok (.tup ((grd n (jcV n fl) n [] (jcV n fl [] - 1)).1.map D.int)) h:=by
 have a:=gM (h:=h) h1 hn (fP n fl)
 have jc:=jg (n:=n) (fl:=fl) (h:=h) h1 (by lia)
 have mc:=oG (n:=n) (fl:=fl) (i:=2) (env:=[some (.int n),some (.tup ((aA n fl).map D.int)),some (.clo "just_count" [.frl (jrD n fl n),.tup ((aA n fl).map D.int)])]) (h:=h) h1 hn (by simp)
 have e:=u4 (h:=h) (t:=jcV n fl [] - 1) (gr fl h1) (qH h1 (by lia)) (by lia) (by lia) (by lia)
 generalize (grd n (jcV n fl) n [] (jcV n fl [] - 1)).1.map D.int=X at *
 generalize jcV n fl []=V at *
 generalize jrD n fl n=J at *
 generalize (aA n fl).map D.int=S at *
 simp[cN,bq,a,jc,mc,e]
theorem D7 {n:Nat}{fl:Nat->Bool}{t:Int}{h:Hh} (h1:1<=n) (hn:n<=12) (t0:0<=t) (t1:t<jcV n fl []):cJ [.int n,.tup ((aA n fl).map D.int),.int t] h=.ok (.tup ((grd n (jcV n fl) n [] t).1.map D.int)) h:=by
 have a:=gM (h:=h) h1 hn (fP n fl)
 have jc:=jg (n:=n) (fl:=fl) (h:=h) h1 (by lia)
 have mc:=oG (n:=n) (fl:=fl) (i:=3) (env:=[some (.int n),some (.tup ((aA n fl).map D.int)),some (.int t),some (.clo "just_count" [.frl (jrD n fl n),.tup ((aA n fl).map D.int)])]) (h:=h) h1 hn (by simp)
 have z2:(0:Int)<=t/\t<=jcV n fl [] - 1:=by lia
 have nn:=gD (h:=h) z2
 have e:=u4 (h:=h) (t:=t) (gr fl h1) (qH h1 (by lia)) (by lia) t0 t1
 generalize (grd n (jcV n fl) n [] t).1.map D.int=X at *
 generalize jcV n fl []=V at *
 generalize jrD n fl n=J at *
 generalize (aA n fl).map D.int=S at *
 simp[cJ,bq,a,jc,mc,nn,e]
noncomputable def zf (a:Int):List Int->List Int
 | []=>[a]
 | x::r=>a::zf (a+x) r
noncomputable def tu:List Int->List Int
 | []=>[0]
 | x::r=>(x+(tu r).headD 0)::tu r
noncomputable def vC (n:Nat) (S:List Int):Nat->List Int
 | 0=>[1]
 | l+1=>if S.any (· == (n:Int) - 1 - ((l:Int)+1)) then zf 0 (vC n S l) else tu (vC n S l)
noncomputable def Bz (n:Nat) (S:List Int):Int:=(vC n S (n - 1)).sum
noncomputable def chB (n k:Nat):Nat:=65537 ^ n / 65536 ^ k % 65536
theorem EY:∀n,n<13->∀k,k<14->chB n k=ch n k:=by decide +kernel
theorem xD:∀(f:List Int) (a:Int),zf a f=(LK (f.length+1)).map fun k=>a+(f.take k).sum
 | [],a=>by simp[zf]
 | x::r,a=>by
  rw[zf,xD r (a+x),show(x::r).length+1=(r.length+1)+1 from rfl,MD (n:=r.length+1)]
  simp[Function.comp_def,Int.add_assoc]
theorem qh:∀(f:List Int),tu f=(LK (f.length+1)).map fun k=>(f.drop k).sum
 | []=>by simp[tu]
 | x::r=>by
  rw[tu,qh r,Mi,MD (n:=r.length+1),LW,Mf]
  simp[MD]
theorem wj (f:Nat->Int){k:Nat}:∀{m:Nat},k<=m->sg (fun r=>if decide ((r:Int)<(k:Int))=true then f r else 0) m=sg f k
 | 0,h=>by have:k=0:=by lia
           subst this;rfl
 | m+1,h=>by
  by_cases c:k=m+1
  ·subst c
   exact bE fun i hi=>by rw[if_pos (decide_eq_true (by lia))]
  ·rw[iV,wj f (k:=k) (m:=m) (by lia),if_neg (by simp;lia)];lia
theorem qv (f:Nat->Int){k:Nat}:∀{m:Nat},k<=m->sg (fun r=>if decide ((r:Int)<(k:Int))=false then f r else 0) m=sg f m - sg f k
 | 0,h=>by have:k=0:=by lia
           subst this;rfl
 | m+1,h=>by
  by_cases c:k=m+1
  ·subst c
   rw[iR fun i hi=>by rw[if_neg (by simp;lia)]];lia
  ·rw[iV,iV,qv f (k:=k) (m:=m) (by lia),if_pos (by simp;lia)];lia
theorem xo (f:Nat->Int){m k:Nat} (h:k<=m):(((LK m).map f).take k).sum=sg f k:=by
 rw[<- List.map_take,List.take_range,PQ h];rfl
theorem xH (f:Nat->Int){m k:Nat} (h:k<=m):(((LK m).map f).drop k).sum=sg f m - sg f k:=by
 have a:=xo f h
 have b:((LK m).map f).sum=sg f m:=rfl
 rw[<- NH k ((LK m).map f),OY,a] at b
 lia
theorem Bi {n:Nat}{fl:Nat->Bool}:∀m,m+1<=n->vC n (aA n fl) m=(LK (m+1)).map fun(r:Nat)=>Jr n fl m r
 | 0,_=>rfl
 | m+1,h=>by
  have ih:=Bi (n:=n) (fl:=fl) m (by lia)
  have ap:(aA n fl).any (· == (n:Int) - 1 - ((m:Int)+1))=fl (n - 2 - m):=by
   have:=nE (n:=n) (fl:=fl) (p:=n - 2 - m) (by lia)
   rw[<- this]
   congr 1
   funext x
   congr 1
   lia
  have e:vC n (aA n fl) (m+1)=if (aA n fl).any (· == (n:Int) - 1 - ((m:Int)+1)) then zf 0 (vC n (aA n fl) m) else tu (vC n (aA n fl) m):=rfl
  have jr:∀r:Nat,Jr n fl (m+1) r=sg (fun s=>if decide ((s:Int)<(r:Int))=fl (n - 2 - m) then Jr n fl m s else 0) (m+1):=fun r=>rfl
  rw[e,ap]
  have ll:((LK (m+1)).map fun(r:Nat)=>Jr n fl m r).length=m+1:=by simp
  cases hf:fl (n - 2 - m) with
  | true=>
   rw[if_pos rfl,xD,ih,ll]
   refine L9 fun k hk=>?_
   have hk:=Mt.mp hk
   rw[jr,hf,xo (fun(r:Nat)=>Jr n fl m r) (by lia),wj (fun(r:Nat)=>Jr n fl m r) (by lia)];lia
  | false=>
   rw[if_neg Mm,qh,ih,ll]
   refine L9 fun k hk=>?_
   have hk:=Mt.mp hk
   rw[jr,hf,xH (fun(r:Nat)=>Jr n fl m r) (by lia),qv (fun(r:Nat)=>Jr n fl m r) (by lia)]
theorem C6 (x y:Nat):sml (chB x y:Int)=true:=by
 refine eG (by lia) ?_
 have:chB x y<65536:=Nat.mod_lt _ (by decide)
 lia
noncomputable def szP (a:Int):List Int->Int->List Int
 | [],n=>[n - a]
 | x::r,n=>(x+1 - a)::szP (x+1) r n
noncomputable def i5 (n:Nat) (S:List Int):Int:=((szP 0 S n).foldl (fun(s:Int × Int) z=>(s.1*(chB s.2.toNat z.toNat:Int),s.2 - z)) (1,(n:Int))).1
theorem wz:∀(S:List Int) (a n:Int),((a::S.map (· + 1)).zip (S.map (· + 1)++[n])).map (fun p=>p.2 - p.1)=szP a S n
 | [],a,n=>rfl
 | x::r,a,n=>by
  rw[szP,<- wz r (x+1) n]
  rfl
theorem lN:∀(S:List Int) (a n:Int),(szP a S n).sum=n - a
 | [],a,n=>by simp[szP]
 | x::r,a,n=>by rw[szP,Ni,lN];lia
theorem D2:∀(S:List Int) (a n:Int),S.Pairwise (· < ·)->(∀x∈S,a<=x+1/\x+1<=n)->a<=n->∀z∈szP a S n,0<=z
 | [],a,n,_,_,l=>by simp[szP];lia
 | x::r,a,n,p,h,l=>by
  intro z hz
  have hx:=h x (by simp)
  rw[szP] at hz
  rcases LR.mp hz with rfl | hz
  ·lia
  ·refine D2 r (x+1) n (L6.mp p).2 (fun y hy=>?_) hx.2 z hz
   have:=(L6.mp p).1 y hy
   have:=h y (by simp[hy])
   lia
theorem lR:∀(S:List Int) (a n:Int),(szP a S n).length=S.length+1
 | [],a,n=>rfl
 | x::r,a,n=>by rw[szP,Mi,lR];rfl
theorem nJ:∀(l:List Int),(∀x∈l,0<=x)->∀x∈l,x<=l.sum
 | [],_,x,h=>by simp at h
 | y::r,h,x,m=>by
  have h0:0<=r.sum:=by
   have:∀l:List Int,(∀x∈l,0<=x)->0<=l.sum:=by
    intro l;induction l with
    | nil=>simp
    | cons a l ih=>intro h;rw[Ni];have:=h a (by simp);have:=ih fun x hx=>h x (by simp[hx]);lia
   exact this r fun x hx=>h x (by simp[hx])
  rw[Ni]
  rcases LR.mp m with rfl | m
  ·lia
  ·have:=nJ r (fun x hx=>h x (by simp[hx])) x m
   have:=h y (by simp)
   lia
theorem mW:∀xs ys:List Int,gq (xs.map D.int) (ys.map D.int)=(xs.zip ys).map fun p=>D.tup [.int p.1,.int p.2]
 | [],_=>by simp[gq]
 | _::_,[]=>by simp[gq]
 | x::xs,y::ys=>by simp[gq,mW xs ys]
theorem Cv {h:Hh} (xs ys:List Int):bX (unp tt1) (unp (ao bR (ae 1) (ae 0))) (fun d=>[some d]) (gq (xs.map D.int) (ys.map D.int)) h=.ok (((xs.zip ys).map fun p=>p.2 - p.1).map D.int) h:=by
 rw[mW,u6 (fun(p:Int × Int)=>D.tup [.int p.1,.int p.2]) (fun p=>D.int (p.2 - p.1)) (xs.zip ys) _ (fun p _=>by simp) (fun p _=>by simp),Mf]
 rfl
theorem wL {n:Nat}{S:List Int}{h:Hh} (h1:1<=n) (hn:n<=12) (s:Sub (n - 1) S):bT [.int n,.tup (S.map D.int)] h=.ok (.tup ((szP 0 S n).map D.int)) h:=by
 have c1:bX tt1 (ao (bQ aD) (ae 0) (cC (.int 1))) (fun d=>[some d]) (S.map D.int) h=.ok ((S.map (· + 1)).map D.int) h:=by
  rw[fN D.int (fun x=>D.int (x+1)) S (fun x _=>by simp),Mf];rfl
 have sl:=s.len
 have z1:S.length<=1000000:=by lia
 have z2:1+S.length<=1000000:=by lia
 have z3:S.length+1<=1000000:=by lia
 have m1:D.int 0::(S.map (· + 1)).map D.int=(0::S.map (· + 1)).map D.int:=rfl
 have m2:cutD ((0::S.map (· + 1)).map D.int) (some 1) none=(S.map (· + 1)).map D.int:=by
  rw[iw];exact congrArg _ (oV _ 1)
 have m3:(S.map (· + 1)).map D.int++[D.int (n:Int)]=(S.map (· + 1)++[(n:Int)]).map D.int:=by simp
 have c2:=Cv (h:=h) (0::S.map (· + 1)) (S.map (· + 1)++[(n:Int)])
 rw[wz] at c2
 have z4:(gq ((0::S.map (· + 1)).map D.int) ((S.map (· + 1)++[(n:Int)]).map D.int)).length<=1000000:=by rw[mW];simp;lia
 have l1:((S.map (· + 1)).map D.int).length=S.length:=by simp
 generalize hA:(S.map (· + 1)).map D.int=A at c1 m1 m2 m3 l1
 generalize hB:(0::S.map (· + 1)).map D.int=B at m1 m2 c2 z4
 generalize hC:(S.map (· + 1)++[(n:Int)]).map D.int=C at m3 c2 z4
 simp[bT,bq,gM (h:=h) h1 hn s,c1,z1,z2,z3,z4,m1,m2,m3,c2,l1]
theorem yA {n:Nat}{S:List Int}{h:Hh} (h1:1<=n) (hn:n<=12) (s:Sub (n - 1) S):cD [.int n,.tup (S.map D.int)] h=.ok (.int (i5 n S)) h:=by
 have sl:=s.len
 obtain⟨q,e⟩:=gy (tg:=gN 4) (body:=(az (oB 2 xQ (ah eK (aa (ae 3) (aa (ae 4) aj)))) (oB 3 bR (ae 4))))
  (fun(s:Int × Int × Option D)=>[some (.int n),some (.tup (S.map D.int)),some (.int s.1),some (.int s.2.1),s.2.2]) (fun _=>h) D.int (fun s z=>(s.1*(chB s.2.1.toNat z.toNat:Int),s.2.1 - z,some (.int z)))
  (fun r s=>(∀z∈r,0<=z)/\r.sum=s.2.1/\s.2.1<=12/\s.1.natAbs*65536 ^ r.length<=65536 ^ 13) (fun s x r ⟨a,b,c,f⟩=>by
   have a1:=a x (by simp)
   have a2:=nJ _ a x (by simp)
   rw[Ni] at b
   have q:=EK (x:=s.2.1.toNat) (n:=x.toNat) (h:=h) (by lia) (by rw[Ni] at a2;lia)
   rw[Ni,b] at a2
   have q0:0<=s.2.1:=by lia
   rw[Int.toNat_of_nonneg q0,Int.toNat_of_nonneg a1,<- EY _ (by lia) _ (by lia)] at q
   have s2:=C6 s.2.1.toNat x.toNat
   have lt:chB s.2.1.toNat x.toNat<65536:=Nat.mod_lt _ (by decide)
   have s1:sml s.1=true:=qV (by
    have:s.1.natAbs*1<=s.1.natAbs*65536 ^ (x::r).length:=Nat.mul_le_mul_left _ (Nat.one_le_pow _ _ (by decide))
    have:s.1.natAbs<=65536 ^ 13:=by lia
    exact L0 this (by decide +kernel))
   generalize chB s.2.1.toNat x.toNat=cc at q s2 lt
   refine⟨⟨fun z hz=>a z (by simp[hz]),by dsimp only;lia,by dsimp only;lia,?_⟩,.inl (by simp[q,s1,s2])⟩
   dsimp only
   rw[Int.natAbs_mul,Int.natAbs_natCast]
   refine L0 ?_ f
   rw[Mi,QW,Nat.mul_assoc,Nat.mul_comm (65536 ^ r.length)]
   exact Nat.mul_le_mul_left _ (Nat.mul_le_mul_right _ (by lia))) (szP 0 S n) (1,(n:Int),none) ⟨D2 S 0 n s.up (fun x hx=>by have:=s.inn x hx;lia) (by lia),by rw[lN];dsimp only;lia,by dsimp only;lia,by
    rw[lR];dsimp only
    have:65536 ^ (S.length+1)<=65536 ^ 13:=NN (by decide) (by lia)
    simpa using this⟩
 have key:∀(r:List Int) (s:Int × Int × Option D),(r.foldl (fun s z=>(s.1*(chB s.2.1.toNat z.toNat:Int),s.2.1 - z,some (D.int z))) s).1=(r.foldl (fun(s:Int × Int) z=>(s.1*(chB s.2.toNat z.toNat:Int),s.2 - z)) (s.1,s.2.1)).1:=by
  intro r
  induction r with
  | nil=>intro s;rfl
  | cons x r ih=>intro s;rw[Oz,Oz,ih]
 have k:=key (szP 0 S n) (1,(n:Int),none)
 rw[show((szP 0 S n).foldl (fun(s:Int × Int) z=>(s.1*(chB s.2.toNat z.toNat:Int),s.2 - z)) ((1,(n:Int),(none:Option D)).1,(1,(n:Int),(none:Option D)).2.1)).1=i5 n S from rfl] at k
 generalize QK _ _ _=s9 at q e k
 dsimp only at q
 simp[cD,bq,wL (h:=h) h1 hn s,q,k]
noncomputable def zP (n k:Nat):Int:=(iW (nL (n - 1)) (some (k:Int)) (some ((k:Int)+1))).sum
theorem Cs {n k:Nat}{h:Hh} (h1:1<=n) (h2:n<=12) (hk:k<=12):dP [.int n,.int k] h=.ok (.int (zP n k)) h:=by
 have r:=Jd (n:=n - 1) (h:=h) (by lia)
 have e:((n - 1:Nat):Int)+1=(n:Int):=by lia
 rw[e] at r
 have z1:1<=(n:Int)/\(n:Int)<=30:=by lia
 have z2:0<=(k:Int)/\(k:Int)<=30:=by lia
 simp[dP,dw,bq,gD z1,gD z2,r,kL,zP]
theorem xf {n:Nat}{xs:List Int} (o:Ord n xs):Ord n (bD n xs):=by
 have b:=wV o.beg
 exact⟨by rw[f6,o.len],b.nd,b.lo,b.hi⟩
theorem nh {n:Nat}{xs:List Int}{h:Hh} (o:Ord n xs) (h1:1<=n) (h2:n<=20) (w:Wf h):cG [.tup (xs.map D.int)] h=.ok (.tup ((bD n xs).map D.int)) h:=by
 have q:bX tt1 (ao bR (ao bR (ah dJ (aa (ae 1) aj)) (cC (.int 1))) (ae 0)) (fun d=>[some d,some (.tup (xs.map D.int))]) (xs.map D.int) h=.ok ((bD n xs).map D.int) h:=by
  rw[fN D.int (fun x=>D.int ((n:Int) - 1 - x)) xs (fun x hx=>by simp[o.len])]
  simp[bD]
 have z:n<=1000000:=by lia
 simp[cG,bq,oR o h1 h2 w,o.len,z,q]
theorem zF (f):∀n,sg (fun i=>f (n - 1 - i)) n=sg f n
 | 0=>rfl
 | n+1=>by
  have a:=mH (fun i=>f (n+1 - 1 - i)) 1 n
  rw[Nat.add_comm 1 n] at a
  rw[a,iV,E6,iV]
  have:sg (fun i=>f (n+1 - 1 - (1+i))) n=sg (fun i=>f (n - 1 - i)) n:=bE fun i hi=>by
   grind
  rw[this,zF f n]
  grind
end FC
namespace FC
open PySem L2 L2.FE L2.Srt
noncomputable def LSf:Nat->Nat->List (List Int)
 | _,0=>[[]]
 | p,m+1=>[]::(LSf (p+1) m).map (fun s=>(p:Int)::s)++(LSf (p+1) m).tail
noncomputable def CB:Nat->Nat->Nat->List (List Int)
 | _,_,0=>[[]]
 | _,0,_+1=>[]
 | p,m+1,k+1=>(CB (p+1) m k).map (fun s=>(p:Int)::s)++CB (p+1) m (k+1)
theorem qQ:∀(p m:Nat),LSf p m=[]::(LSf p m).tail
 | p,0=>rfl
 | p,m+1=>rfl
theorem B5 (p:Int) (k:Nat) (L:List (List Int)):(L.map (fun s=>p::s)).filter (fun s=>s.length == k+1)=(L.filter fun s=>s.length == k).map (fun s=>p::s):=by
 rw[Oe]
 congr 1
 apply Na
 intro s _
 show((p::s).length == k+1)=(s.length == k)
 rw[Mi]
 rw[M3];simp
theorem sy:∀(m p k:Nat),(LSf p m).filter (fun s=>s.length == k)=CB p m k
 | 0,p,0=>rfl
 | 0,p,k+1=>rfl
 | m+1,p,0=>by
  unfold LSf CB
  rw[Ng,L_,if_pos (by rfl),Oy]
  have e1:((LSf (p+1) m).map (fun s=>(p:Int)::s)).filter (fun s=>s.length == 0)=[]:=by
   apply Nc.mpr
   intro s hs
   obtain⟨t,_,rfl⟩:=L5.mp hs
   simp
  have e2:(LSf (p+1) m).tail.filter (fun s=>s.length == 0)=[]:=by
   have ih:=sy m (p+1) 0
   rw[qQ,L_,if_pos (by rfl)] at ih
   have:CB (p+1) m 0=[[]]:=by cases m<;>rfl
   rw[this] at ih
   simpa using ih
  rw[e1,e2];rfl
 | m+1,p,k+1=>by
  have ih:=sy m (p+1) (k+1)
  rw[qQ,L_,if_neg (by simp)] at ih
  unfold LSf CB
  rw[Ng,L_,if_neg (by simp),Oy,B5,sy m (p+1) k,ih]
noncomputable def ip (p0 e:Nat) (s:List Int):List (List Int):=match s.getLast? with
 | none=>(LK (e - p0)).map fun(i:Nat)=>s++[((p0+i:Nat):Int)]
 | some l=>(LK ((e:Int) - l - 1).toNat).map fun(i:Nat)=>s++[l+1+i]
theorem ext_cons {p e:Nat} (s:List Int) (h:p+1<=e):ip p e ((p:Int)::s)=(ip (p+1) e s).map (fun t=>(p:Int)::t):=by
 unfold ip
 cases s with
 | nil=>
  simp only[List.getLast?_singleton,List.getLast?_nil]
  rw[Mf,show((e:Int) - (p:Int) - 1).toNat=e - (p+1) by lia]
  apply L9
  intro i _
  show[(p:Int)]++[(p:Int)+1+i]=(p:Int)::([]++[((p+1+i:Nat):Int)])
  simp
 | cons x r=>
  rw[List.getLast?_cons_cons]
  cases hl:(x::r).getLast? with
  | none=>simp at hl
  | some l=>
   simp only
   rw[Mf]
   apply L9
   intro i _
   rfl
theorem Fu {p q e:Nat}{s:List Int} (h:s≠[]):ip p e s=ip q e s:=by
 unfold ip
 cases hl:s.getLast? with
 | none=>simp at hl;exact absurd hl h
 | some l=>rfl
theorem vt:∀(m p k:Nat),∀s∈CB p m k,s.length=k
 | 0,p,0,s,h=>by rw[show CB p 0 0=[[]] from rfl,LX] at h;subst h;rfl
 | m+1,p,0,s,h=>by rw[show CB p (m+1) 0=[[]] from rfl,LX] at h;subst h;rfl
 | 0,p,k+1,s,h=>by cases h
 | m+1,p,k+1,s,h=>by
  unfold CB at h
  rcases Ml.mp h with h | h
  ·obtain⟨t,ht,rfl⟩:=L5.mp h
   rw[Mi,vt m (p+1) k t ht]
  ·exact vt m (p+1) (k+1) s h
theorem pL:∀(m p k:Nat),(CB p m k).flatMap (ip p (p+m))=CB p m (k+1)
 | 0,p,0=>by
  show[[]].flatMap (ip p (p+0))=[]
  simp[ip]
 | 0,p,k+1=>rfl
 | m+1,p,0=>by
  have ih:=pL m (p+1) 0
  have e0:CB (p+1) m 0=[[]]:=by cases m<;>rfl
  rw[e0] at ih
  show[[]].flatMap (ip p (p+(m+1)))=(CB (p+1) m 0).map (fun s=>(p:Int)::s)++CB (p+1) m 1
  rw[e0,<- ih]
  simp only[Pe,List.flatMap_nil,NF,LW,NS]
  unfold ip
  simp only[List.getLast?_nil,M1]
  rw[show p+(m+1) - p=m+1 by lia,show p+1+m - (p+1)=m by lia,MD,LW,Mf]
  show[((p+0:Nat):Int)]::_=[(p:Int)]::_
  congr 1
  apply L9
  intro i _
  show[((p+(i+1):Nat):Int)]=[((p+1+i:Nat):Int)]
  rw[show p+(i+1)=p+1+i by lia]
 | m+1,p,k+1=>by
  have ih1:=pL m (p+1) k
  have ih2:=pL m (p+1) (k+1)
  rw[show p+1+m=p+(m+1) by lia] at ih1 ih2
  have a1:((CB (p+1) m k).map (fun s=>(p:Int)::s)).flatMap (ip p (p+(m+1)))=(CB (p+1) m (k+1)).map (fun s=>(p:Int)::s):=by
   rw[<- ih1,List.flatMap_map,Qe,Pp,Pp]
   congr 1
   apply L9
   intro s _
   exact ext_cons s (by lia)
  have a2:(CB (p+1) m (k+1)).flatMap (ip p (p+(m+1)))=CB (p+1) m (k+2):=by
   refine LO ?_ ih2
   rw[Pp,Pp]
   congr 1
   apply L9
   intro s hs
   exact Fu (by intro z;have:=vt m (p+1) (k+1) s hs;rw[z] at this;simp at this)
  conv=>lhs;unfold CB
  conv=>rhs;unfold CB
  rw[List.flatMap_append,a1,a2]
noncomputable def InS (p e:Nat) (s:List Int):Prop:=s.Pairwise (· < ·)/\∀x∈s,(p:Int)<=x/\x<e
theorem tP:∀(m p:Nat),∀s∈LSf p m,InS p (p+m) s/\s.length<=m
 | 0,p,s,h=>by rw[show LSf p 0=[[]] from rfl,LX] at h;subst h;exact⟨⟨.nil,fun x hx=>by cases hx⟩,LH _⟩
 | m+1,p,s,h=>by
  unfold LSf at h
  rw[Ng] at h
  rcases LR.mp h with rfl | h
  ·exact⟨⟨.nil,fun x hx=>by cases hx⟩,Nj _⟩
  ·rcases Ml.mp h with h | h
   ·obtain⟨t,ht,rfl⟩:=L5.mp h
    obtain⟨⟨i1,i2⟩,i3⟩:=tP m (p+1) t ht
    refine⟨⟨L6.mpr ⟨fun x hx=>?_,i1⟩,fun x hx=>?_⟩,by rw[Mi];lia⟩
    ·have:=i2 x hx;lia
    ·rcases LR.mp hx with rfl | hx
     ·lia
     ·have:=i2 x hx;lia
   ·obtain⟨⟨i1,i2⟩,i3⟩:=tP m (p+1) s (List.mem_of_mem_tail h)
    exact⟨⟨i1,fun x hx=>by have:=i2 x hx;lia⟩,by lia⟩
theorem mI:∀(m p:Nat),(LSf p m).length=2 ^ m
 | 0,p=>rfl
 | m+1,p=>by
  have ih:=mI m (p+1)
  unfold LSf
  have:(LSf (p+1) m).tail.length+1=(LSf (p+1) m).length:=by rw[qQ (p+1) m];simp
  rw[Ng,Mi,Mn,LQ,QW]
  lia
theorem qL:∀(m p:Nat),∀s∈(LSf p m).tail,s≠[]
 | 0,p,s,h=>by cases h
 | m+1,p,s,h=>by
  unfold LSf at h
  rw[Ng,List.tail_cons] at h
  rcases Ml.mp h with h | h
  ·obtain⟨t,_,rfl⟩:=L5.mp h;simp
  ·exact qL m (p+1) s h
theorem DT:∀(m p:Nat),(LSf p m).Pairwise (fun a b=>fG a b=true)
 | 0,p=>by rw[show LSf p 0=[[]] from rfl];exact M_ _ _
 | m+1,p=>by
  have ih:=DT m (p+1)
  unfold LSf
  rw[Ng]
  refine L6.mpr ⟨fun s hs=>?_,L8.mpr ⟨?_,ih.sublist (List.tail_sublist _),fun a ha b hb=>?_⟩⟩
  ·have:s≠[]:=by
    rcases Ml.mp hs with h | h
    ·obtain⟨t,_,rfl⟩:=L5.mp h;simp
    ·exact qL m (p+1) s h
   cases s with
   | nil=>exact absurd rfl this
   | cons x r=>simp[fG]
  ·rw[MH]
   refine ih.imp fun h=>?_
   unfold fG
   rw[if_pos rfl];exact h
  ·obtain⟨t,_,rfl⟩:=L5.mp ha
   have hn:=qL m (p+1) b hb
   have hi:=(tP m (p+1) b (List.mem_of_mem_tail hb)).1.2
   cases b with
   | nil=>exact absurd rfl hn
   | cons x r=>
    have:=hi x LL
    unfold fG
    rw[if_neg (by lia)]
    exact decide_eq_true (by lia)
theorem Ap {X:Type} (f:X->Nat) (L:List X):∀n,(((LK n).flatMap fun k=>L.filter fun x=>f x == k)).Perm (L.filter fun x=>decide (f x<n))
 | 0=>by
  have:(L.filter fun x=>decide (f x<0))=[]:=Nc.mpr fun x _=>by simp
  rw[this];exact .refl _
 | n+1=>by
  rw[Od,List.flatMap_append]
  have ih:=Ap f L n
  have e1:(L.filter fun x=>decide (f x<n+1)).filter (fun x=>decide (f x<n))=L.filter fun x=>decide (f x<n):=by
   rw[NM]
   apply Na
   intro x _
   by_cases h:f x<n
   ·rw[decide_eq_true h,decide_eq_true (by lia)];rfl
   ·rw[decide_eq_false h];rfl
  have e2:(L.filter fun x=>decide (f x<n+1)).filter (fun x=>!decide (f x<n))=L.filter fun x=>f x == n:=by
   rw[NM]
   apply Na
   intro x _
   by_cases h:f x<n
   ·have:(f x == n)=false:=by rw[beq_eq_false_iff_ne];lia
    rw[decide_eq_true h,this];rfl
   ·by_cases h2:f x=n
    ·rw[decide_eq_false h,decide_eq_true (by lia),h2];simp
    ·have:(f x == n)=false:=by rw[beq_eq_false_iff_ne];exact h2
     rw[decide_eq_false h,decide_eq_false (by lia),this];rfl
  have p:=List.filter_append_perm (fun x=>decide (f x<n)) (L.filter fun x=>decide (f x<n+1))
  rw[e1,e2] at p
  refine QG.trans (QG.append ih ?_) p
  simp
noncomputable def LS (n:Nat):List (List Int):=LSf 0 (n - 1)
noncomputable def SO (n k:Nat):List (List Int):=CB 0 (n - 1) k
theorem EN (n:Nat):SO n 0=[[]]:=by unfold SO;cases n - 1<;>rfl
theorem JE (n k:Nat):SO n (k+1)=(SO n k).flatMap (ip 0 (n - 1)):=by
 have:=pL (n - 1) 0 k
 rw[NQ] at this
 exact this.symm
theorem wJ (n k:Nat):(LS n).filter (fun s=>s.length == k)=SO n k:=sy (n - 1) 0 k
theorem i6 {n:Nat}{s:List Int} (h:s∈LS n):InS 0 (n - 1) s/\s.length<=n - 1:=by
 have:=tP (n - 1) 0 s h
 rw[NQ] at this
 exact this
theorem Ab {n k:Nat}{s:List Int} (h:s∈SO n k):InS 0 (n - 1) s/\s.length<=n - 1:=by
 rw[<- wJ] at h
 exact i6 (Mj.mp h).1
theorem sY {n k:Nat} (hn:n<=12):(SO n k).length<=2048:=by
 rw[<- wJ]
 refine L0 (NJ _ _) ?_
 unfold LS
 rw[mI]
 exact L0 (NN (by decide) (by lia:n - 1<=11)) (by decide)
noncomputable def AS (n:Nat):List (List Int):=(LK n).flatMap (SO n)
theorem xV {n:Nat} (h1:1<=n):(AS n).Perm (LS n):=by
 have p:=Ap (fun s:List Int=>s.length) (LS n) n
 have e:(LS n).filter (fun s=>decide (s.length<n))=LS n:=M4.mpr fun s hs=>decide_eq_true (by have:=(i6 hs).2;lia)
 rw[e] at p
 have e2:((LK n).flatMap fun k=>(LS n).filter fun s=>s.length == k)=AS n:=by
  unfold AS
  congr 1
  funext k
  exact wJ n k
 rw[e2] at p
 exact p
theorem DR {n:Nat}{s:List Int} (hn:n<=12) (h:InS 0 (n - 1) s):Bd s:=fun x hx=>by have:=h.2 x hx;lia
theorem Ec {n:Nat} (hn:n<=12):(LS n).Pairwise fun a b=>kT 20 a<kT 20 b:=by
 refine OV ?_ (DT (n - 1) 0)
 intro a b ha hb h
 have ia:=i6 (n:=n) ha
 have ib:=i6 (n:=n) hb
 rw[qM 20 (DR hn ia.1) (DR hn ib.1) (by lia) (by lia)] at h
 exact of_decide_eq_true h
theorem Cf {n:Nat} (h1:1<=n) (hn:n<=12):lg (AS n)=LS n/\((AS n).map (kT 20)).Nodup:=by
 have p:=xV h1
 refine⟨(jd (p.symm.trans (i9 _).symm) (Ec hn) (gP _)).symm,?_⟩
 refine(p.map (kT 20)).nodup_iff.mpr ?_
 rw[Rh,MH]
 exact(Ec hn).imp fun h=>by lia
theorem DV {Y:Type}{P:List D->Prop}{M:List Y}{e1 e2:Y->D}{te:ME}{ff:D->En}{H:Hh} (st:∀y∈M,∀A,P A->te (ff (e1 y)) (H++[.lst A])=.ok (e2 y) (H++[.lst A])/\P (A++[e2 y])):∀(k j:Nat) (A:List D),P A->j+k=M.length->A.length+k<=1000000->nI H.length (Src.snap (M.map e1)).rdr te ff k j (H++[.lst A])=.ok () (H++[.lst (A++(M.drop j).map e2)])/\P (A++(M.drop j).map e2)
 | 0,j,A,pA,e,_=>by
  unfold nI
  have:(Src.snap (M.map e1)).rdr (H++[.lst A]) j=some none:=by
   simp only[Src.rdr]
   rw[MJ (by simp;lia)]
  rw[this,NY (by lia)]
  simpa using pA
 | k+1,j,A,pA,e,l=>by
  unfold nI
  have lt:j<M.length:=by lia
  have g:(Src.snap (M.map e1)).rdr (H++[.lst A]) j=some (some (e1 M[j])):=by
   simp only[Src.rdr]
   rw[Me,LU lt];rfl
  rw[g]
  have a:u7 H.length (e2 M[j]) (H++[.lst A])=.ok () (H++[.lst (A++[e2 M[j]])]):=by
   unfold u7
   rw[f_]
   dsimp only
   rw[if_pos (by lia),pN]
  obtain⟨s1,s2⟩:=st _ (Oq lt) A pA
  obtain⟨q1,q2⟩:=DV st k (j+1) _ s2 (by lia) (by simp;lia)
  dsimp only
  rw[s1,cu,a,cu,q1,MM lt]
  rw[Mr] at q2 ⊢
  exact⟨rfl,q2⟩
theorem D9 {X Y:Type}{P:List D->Prop}{L:List X}{rd:Rdr}{mi2:MI}{te:ME}{ff:Option D->Option D->En}{H:Hh} (enc:X->D) (g:X->List Y) (e1 e2:X->Y->D) (N:Nat)
  (hr:∀A i,rd (H++[.lst A]) i=some ((L.map enc)[i]?)) (hm:∀x∈L,∀A,P A->mi2 (ff (some (enc x)) none) (H++[.lst A])=.ok (.snap ((g x).map (e1 x))) (H++[.lst A]))
  (st:∀x∈L,∀y∈g x,∀A,P A->te (ff (some (enc x)) (some (e1 x y))) (H++[.lst A])=.ok (e2 x y) (H++[.lst A])/\P (A++[e2 x y])) (hg:∀x∈L,(g x).length<=N) :
  ∀(k i:Nat) (A:List D),P A->i+k=L.length->A.length+k*N<=1000000->jy H.length rd mi2 te ff k i (H++[.lst A])=.ok () (H++[.lst (A++(L.drop i).flatMap fun x=>(g x).map (e2 x))])
 | 0,i,A,_,e,_=>by
  unfold jy
  rw[hr,MJ (by rw[LQ];lia),NY (by lia)]
  simp
 | k+1,i,A,pA,e,l=>by
  have lt:i<L.length:=by lia
  unfold jy
  rw[hr,Me,LU lt]
  have hx:=Oq lt
  have gl:=hg _ hx
  rw[Q9,Nat.one_mul] at l
  dsimp only[PK]
  rw[hm _ hx A pA,cu]
  have fu:(Src.snap ((g L[i]).map (e1 L[i]))).fuel (H++[.lst A])=(g L[i]).length:=by
   show((g L[i]).map (e1 L[i])).length=_
   simp
  obtain⟨q1,q2⟩:=DV (P:=P) (e1:=e1 L[i]) (e2:=e2 L[i]) (te:=te) (ff:=fun e=>ff (some (enc L[i])) (some e)) (H:=H) (fun y hy A pA=>st _ hx y hy A pA) (g L[i]).length 0 A pA (by lia) (by lia)
  rw[Qu] at q1 q2
  rw[fu,q1,cu]
  rw[D9 enc g e1 e2 N hr hm st hg k (i+1) _ q2 (by lia) (by rw[Mn,LQ];lia),MM lt,Pe,Mr]
theorem Hc {X Y:Type} (P:List D->Prop){L:List X}{sr:Src}{mi:MI}{ix:List Nat}{env:En}{mi2:MI}{te:ME}{H:Hh} (enc:X->D) (g:X->List Y) (e1 e2:X->Y->D) (N:Nat) (hs:mi env H=.ok sr H) (hf:sr.fuel H=L.length)
  (hr:∀A i,sr.rdr (H++[.lst A]) i=some ((L.map enc)[i]?)) (p0:P []) (hm:∀x∈L,∀A,P A->mi2 (dB ix env (some (enc x)) none) (H++[.lst A])=.ok (.snap ((g x).map (e1 x))) (H++[.lst A]))
  (st:∀x∈L,∀y∈g x,∀A,P A->te (dB ix env (some (enc x)) (some (e1 x y))) (H++[.lst A])=.ok (e2 x y) (H++[.lst A])/\P (A++[e2 x y])) (hg:∀x∈L,(g x).length<=N) (hl:L.length*N<=1000000) :
  jt mi ix mi2 te env H=.ok (.ref H.length) (H++[.lst (L.flatMap fun x=>(g x).map (e2 x))]):=by
 unfold jt
 have q:=D9 (P:=P) enc g e1 e2 N hr hm st hg L.length 0 [] p0 (by lia) (by simpa using hl)
 rw[Qu,M1] at q
 rw[hs,cu,hf,q];rfl
noncomputable def pbI (n:Nat) (s:List Int):List Int:=match s.getLast? with
 | none=>(LK (n - 1)).map fun(i:Nat)=>((0+i:Nat):Int)
 | some l=>(LK (((n - 1:Nat):Int) - l - 1).toNat).map fun(i:Nat)=>l+1+i
theorem Fc (n:Nat) (s:List Int):ip 0 (n - 1) s=(pbI n s).map fun x=>s++[x]:=by
 unfold ip pbI
 cases s.getLast?<;>(dsimp only;rw[Mf];rfl)
theorem EZ {n:Nat}{s:List Int} (h:InS 0 (n - 1) s):(pbI n s).length<=n:=by
 unfold pbI
 cases hl:s.getLast? with
 | none=>dsimp only;rw[LQ,Pd];lia
 | some l=>
  dsimp only
  rw[LQ,Pd]
  have:=h.2 l (List.mem_of_getLast? hl)
  lia
theorem AZ {n:Nat}{s:List Int}{h:Hh} (h1:1<=n) (hn:n<=12) (hi:InS 0 (n - 1) s):bU [.int n,tpI s] h=.ok (.frl ((pbI n s).map D.int)) h:=by
 unfold pbI tpI
 cases hl:s.getLast? with
 | none=>
  have:s=[]:=by simpa using hl
  subst this
  have z:((n:Int) - 1).toNat=n - 1:=by lia
  have z2:((n:Int) - 1).natAbs<=1000000:=by lia
  have z3:n - 1<=1000000:=by lia
  have e:bC 0 (n - 1)=((LK (n - 1)).map fun(i:Nat)=>((0+i:Nat):Int)).map D.int:=by rw[cX,Mf];apply L9;intro i _;simp
  dsimp only
  rw[<- e]
  simp[bU,bq,eZ,z,z2,z3]
 | some l=>
  have hm:=hi.2 l (List.mem_of_getLast? hl)
  have ne:s≠[]:=by intro z;rw[z] at hl;simp at hl
  have ix:∀H:Hh,ixK (s.map D.int) (-1) H=.ok (.int l) H:=fun H=>by
   obtain⟨t,rfl⟩:=List.getLast?_eq_some_iff.mp hl
   rw[Oc];exact mS
  have z1:(l+1).natAbs<=1000000:=by lia
  have z2:((n:Int) - 1).natAbs<=1000000:=by lia
  have z3:((n:Int) - 1 - (l+1)).toNat=(((n - 1:Nat):Int) - l - 1).toNat:=by lia
  have z4:(((n - 1:Nat):Int) - l - 1).toNat<=1000000:=by lia
  have tr:∀H:Hh,eZ (.tup (s.map D.int)) H=.ok true H:=fun H=>by
   cases s with
   | nil=>exact absurd rfl ne
   | cons x r=>rfl
  have e:bC (l+1) (((n - 1:Nat):Int) - l - 1).toNat=((LK (((n - 1:Nat):Int) - l - 1).toNat).map fun(i:Nat)=>l+1+(i:Int)).map D.int:=by unfold bC;rw[Mf];rfl
  dsimp only
  rw[<- e]
  have z5:((n - 1:Nat):Int) - l<=1000001:=by lia
  simp[bU,bq,tr,ix,z1,z2,z3,z4,z5]
noncomputable def SM2:MI:=(bz (ah bU (aa (ae 2) (aa (ae 0) aj))))
noncomputable def STE:ME:=(ao (bQ aD) (ae 0) (ah d8 (aa (ae 1) aj)))
noncomputable def SSB:MS:=(aV 2 (jt (bz (ae 2)) [0] SM2 STE))
noncomputable def Lv (X:D) (H:Hh) (ds:List D):Prop:=∃sr:Src,pS X H=.ok sr H/\sr.fuel H=ds.length/\∀A i,sr.rdr (H++[.lst A]) i=some ds[i]?
theorem EO {ds:List D}{H:Hh}:Lv (.frl ds) H ds:=⟨.snap ds,rfl,rfl,fun _ _=>rfl⟩
theorem F_ {ds:List D}{H:Hh}{r:Nat} (e:aH H r=some ds):Lv (.ref r) H ds:=⟨.live r,I0 e,by simp[Src.fuel,e],fun A i=>by simp only[Src.rdr];rw[CD e];rfl⟩
theorem EW {n:Nat}{L:List (List Int)}{X:D}{H:Hh}{d1 d3:Option D} (h1:1<=n) (hn:n<=12) (lv:Lv X H (L.map tpI)) (hi:∀s∈L,InS 0 (n - 1) s/\s.length<=n - 1) (hl:L.length<=2048):SSB [some (.int n),d1,some X,d3] H=.ok (.nx [some (.int n),d1,some (.ref H.length),d3]) (H++[.lst ((L.flatMap (ip 0 (n - 1))).map tpI)]):=by
 obtain⟨sr,s1,s2,s3⟩:=lv
 have q:=Hc (fun _=>True) (L:=L) (sr:=sr) (mi:=bz (ae 2)) (ix:=[0]) (env:=[some (.int n),d1,some X,d3]) (mi2:=SM2) (te:=STE) (H:=H) tpI (pbI n) (fun _ x=>D.int x) (fun s x=>tpI (s++[x])) 12
  (by show(ae 2 [some (.int n),d1,some X,d3] H).bind pS=_;rw[show ae 2 [some (.int n),d1,some X,d3] H=.ok X H by simp,cu,s1]) (by rw[s2,LQ]) s3 trivial
  (fun s hs A _=>by
   have xp:=AZ (h:=H++[.lst A]) h1 hn (hi s hs).1
   have cp:dB [0] [some (.int n),d1,some X,d3] (some (tpI s)) none=[some (tpI s),none,some (.int n)]:=by simp[dB]
   rw[cp]
   generalize tpI s=ts at *
   simp[SM2,xp])
  (fun s hs x hx A _=>by
   refine⟨?_,trivial⟩
   have cp:dB [0] [some (.int n),d1,some X,d3] (some (tpI s)) (some (.int x))=[some (tpI s),some (.int x),some (.int n)]:=by simp[dB]
   have ls:s.length+1<=1000000:=by have:=(hi s hs).2;lia
   rw[cp]
   simp[STE,tpI,ls])
  (fun s hs=>by have:=EZ (hi s hs).1;lia) (by lia)
 have e:(L.flatMap fun s=>(pbI n s).map fun x=>tpI (s++[x]))=(L.flatMap (ip 0 (n - 1))).map tpI:=by
  rw[Qe]
  congr 1
  funext s
  rw[Fc,Mf];rfl
 rw[e] at q
 unfold SSB
 rw[HU,q]
 rfl
theorem rX {k:Nat}{L:List (List Int)}:(L.map tpI).all (deep (k+2))=true:=by
 rw[L4]
 intro d hd
 obtain⟨b,_,rfl⟩:=L5.mp hd
 show(b.map D.int).all (deep (k+1))=true
 rw[L4]
 intro e he
 obtain⟨i,_,rfl⟩:=L5.mp he
 rfl
theorem zD {h t:Hh}{ds:List D}{j:Nat} (w:Wf h) (el:aH (h++t) (h.length+j)=some ds) (e:ds.all (deep 7)=true):cV h (.ref (h.length+j)) (h++t)=.ok (.frl ds) h:=by
 unfold cV
 rw[O0 rfl,if_pos (show h.all (qD h.length)=true from w)]
 have:gB h.length (h++t) 8 (.ref (h.length+j))=some (.frl ds):=by
  unfold gB
  have:¬ (h.length+j<h.length):=by lia
  simp only[this,if_false,el]
  rw[L4] at e
  rw[jw fun d hd=>gG 7 d (e d hd)];rfl
 rw[this]
theorem Hj:bK=fun ds h=>((b9 4 (az (cW (ah aE (aa (ae 0) (aa (cC (.int 1)) (aa (cC (.int 12)) aj)))))
  (az (cW (ah aE (aa (ae 1) (aa (cC (.int 0)) (aa (cC (.int 12)) aj)))))
  (az (aV 2 (ah (eB aD) (aa (ah d8 aj) aj)))
  (az (eL (eS fC (aa (ae 1) aj)) (gN 3) SSB)
  (aW (ae 2))))))) ds h).bind (cV h):=rfl
theorem CC {n k:Nat}{h T0:Hh}{X0:D} (h1:1<=n) (hn:n<=12) (lv:Lv X0 (h++T0) [tpI []]):∃T X y,eJ (gN 3) SSB (bC 0 k) [some (.int n),some (.int k),some X0,none] (h++T0)=.ok (.nx [some (.int n),some (.int k),some X,y]) (h++T)/\((k=0/\X=X0/\T=T0)\/∃j,X=.ref (h.length+j)/\aH (h++T) (h.length+j)=some ((SO n k).map tpI)):=by
 obtain⟨s,lp,si⟩:=lL (σ:=Hh × D × Option D) (tg:=gN 3) (body:=SSB) (fun(i:Nat)=>D.int i) k (fun s=>[some (.int n),some (.int k),some s.2.1,s.2.2]) (fun s=>h++s.1) (fun i s=>Lv s.2.1 (h++s.1) ((SO n i).map tpI)/\((i=0/\s.2.1=X0/\s.1=T0)\/∃j,s.2.1=.ref (h.length+j)/\aH (h++s.1) (h.length+j)=some ((SO n i).map tpI))) (fun i s hi hs=>by
  obtain⟨T,X,y⟩:=s
  obtain⟨lv,_⟩:=hs
  dsimp only at lv ⊢
  have q:=EW (d1:=some (.int k)) (d3:=some (.int i)) h1 hn lv (fun s hs=>Ab hs) (sY hn)
  rw[<- JE] at q
  have e1:aH (h++(T++[O.lst ((SO n (i+1)).map tpI)])) (h.length+T.length)=some ((SO n (i+1)).map tpI):=by
   rw[<- Mr,<- Mn];exact f_
  refine⟨(T++[.lst ((SO n (i+1)).map tpI)],.ref (h.length+T.length),some (.int i)),⟨F_ e1,.inr ⟨_,rfl,e1⟩⟩,?_⟩
  simp only[EJ,cu,Ro]
  rw[q,Mr,Mn]) k 0 (T0,X0,none) (by lia) ⟨by rw[EN];exact lv,.inl ⟨rfl,rfl,rfl⟩⟩
 obtain⟨T,X,y⟩:=s
 dsimp only at lp si
 rw[<- N6,<- cX] at lp
 exact⟨T,X,y,lp,si.2⟩
theorem lM {n k:Nat}{h:Hh} (w:Wf h) (h1:1<=n) (hn:n<=12) (hk:k<=12):bK [.int n,.int k] h=.ok (.frl ((SO n k).map tpI)) h:=by
 obtain⟨T,X,y,lp,o⟩:=CC (n:=n) (k:=k) (h:=h) (T0:=[]) (X0:=.frl [tpI []]) h1 hn EO
 have n1:=gD (h:=h) (i:=(n:Int)) (a:=1) (b:=12) (by lia)
 have n2:=gD (h:=h) (i:=(k:Int)) (a:=0) (b:=12) (by lia)
 have z1:k<=1000000:=by lia
 have ex:cV h X (h++T)=.ok (.frl ((SO n k).map tpI)) h:=by
  rcases o with⟨rfl,rfl,rfl⟩ | ⟨j,rfl,el⟩
  ·rw[EN];exact fH w (by decide)
  ·exact zD w el (rX (k:=5))
 rw[Hj]
 have t0:tpI []=.tup []:=rfl
 rw[t0,NF] at lp
 generalize (SO n k).map tpI=W at *
 simp[bq,n1,n2,z1,lp,ex]
end FC
namespace FC
open PySem L2 L2.FE
noncomputable def bo (p m:Nat) (S:List Int):List Bool:=(LK m).map fun i=>S.any (· == ((p+i:Nat):Int))
noncomputable def wv:List Bool->List Int
 | []=>[1]
 | b::bs=>if b=true then Mq ((wv bs).length+1) (wv bs).sum else tu (wv bs)
noncomputable def wvB (n:Nat):Bool:=(subs (n - 1)).all fun S=>decide ((wv (bo 0 (n - 1) S)).sum=i5 n S)
theorem Ih:∀n,n<11->1<=n->wvB n=true:=by decide +kernel
theorem Ir:wvB 11=true:=by decide +kernel
theorem G_:wvB 12=true:=by decide +kernel
theorem Iw {n:Nat} (hn:n<13) (h1:1<=n):wvB n=true:=by
 rcases Qn n 11 with h | h
 ·exact Ih n h h1
 ·rcases(by lia:n=11\/n=12) with rfl | rfl
  ·exact Ir
  ·exact G_
noncomputable def soB (n k:Nat):Bool:=decide (((SO n k).map (Bz n)).sum=zP n k)
theorem Iy:∀n,n<11->∀k,k<n->soB n k=true:=by decide +kernel
theorem Iv:∀k,k<11->soB 11 k=true:=by decide +kernel
theorem EB:∀k,k<5->soB 12 k=true:=by decide +kernel
theorem Gu:∀k,k<7->soB 12 (k+5)=true:=by decide +kernel
theorem G3 {n k:Nat} (hn:n<13) (hk:k<n):soB n k=true:=by
 rcases Qn n 11 with h | h
 ·exact Iy n h k hk
 ·rcases(by lia:n=11\/n=12) with rfl | rfl
  ·exact Iv k hk
  ·rcases Qn k 5 with c | c
   ·exact EB k c
   ·have:=Gu (k - 5) (by lia)
    rwa [show k - 5+5=k by lia] at this
noncomputable def mb (S:List Int) (i:Nat):Bool:=S.any (· == (i:Int))
noncomputable def JV (n:Nat) (S:List Int):Int:=jcV n (mb S) []
theorem qK {n:Nat}{S:List Int} (s:Sub (n - 1) S):aA n (mb S)=S:=(AV s).symm
theorem lQ {n:Nat}{fl:Nat->Bool}{h:Hh} (h1:1<=n) (hn:n<=12):aB [.int n,.tup ((aA n fl).map D.int)] h=.ok (.int (jcV n fl [])) h:=by
 have a:=gM (h:=h) h1 hn (fP n fl)
 have r:=tQ (n:=n) (fl:=fl) (h:=h) h1 (by lia)
 have c:=Ij (n:=n) (fl:=fl) (xs:=[]) (h:=h) (Beg.nil n) h1 (by lia)
 have c:aZ [.frl (jrD n fl n),.tup ((aA n fl).map D.int),.tup []] h=.ok (.int (jcV n fl [])) h:=c
 generalize jrD n fl n=J at *
 generalize (aA n fl).map D.int=T at *
 simp[aB,bq,a,r,c]
theorem m9 {n:Nat}{S:List Int}{h:Hh} (h1:1<=n) (hn:n<=12) (s:Sub (n - 1) S):aB [.int n,.tup (S.map D.int)] h=.ok (.int (JV n S)) h:=by
 have:=lQ (n:=n) (fl:=mb S) (h:=h) h1 hn
 rwa [qK s] at this
theorem AI {n:Nat}{fl:Nat->Bool}:jcV n fl []=sg (fun r=>Jr n fl (n - 1) r) n:=if_pos rfl
theorem KC {n:Nat}{S:List Int} (h1:1<=n) (s:Sub (n - 1) S):JV n S=Bz n S:=by
 have r:=Bi (n:=n) (fl:=mb S) (n - 1) (by lia)
 rw[qK s] at r
 unfold JV Bz
 rw[AI,r,show n - 1+1=n by lia];rfl
noncomputable def Jb:List Bool->Nat->Int
 | [],_=>1
 | b::bs,l=>sg (fun r=>if decide (r<l)=b then Jb bs r else 0) (bs.length+1)
theorem x_ (p m:Nat) (S:List Int):bo p (m+1) S=S.any (· == ((p:Nat):Int))::bo (p+1) m S:=by
 unfold bo
 rw[MD,LW,Mf]
 congr 1
 exact L9 fun i _=>by
  show S.any (· == ((p+(i+1):Nat):Int))=S.any (· == ((p+1+i:Nat):Int))
  rw[show p+(i+1)=p+1+i by lia]
theorem ju (p m:Nat) (S:List Int):(bo p m S).length=m:=by simp[bo]
theorem DK {n:Nat}{S:List Int}:∀m,m+1<=n->∀l:Nat,Jr n (mb S) m (l:Int)=Jb (bo (n - 1 - m) m S) l
 | 0,_,l=>rfl
 | m+1,h,l=>by
  rw[x_,show n - 1 - (m+1)+1=n - 1 - m by lia]
  show sg _ (m+1)=sg _ ((bo (n - 1 - m) m S).length+1)
  rw[ju]
  refine bE fun r _=>?_
  rw[DK m (by lia) r,show n - 1 - (m+1)=n - 2 - m by lia]
  have:decide ((r:Int)<(l:Int))=decide (r<l):=by simp
  rw[this];rfl
theorem J9 {n:Nat}{S:List Int} (h1:1<=n):JV n S=sg (Jb (bo 0 (n - 1) S)) n:=by
 unfold JV
 rw[AI]
 refine bE fun r _=>?_
 rw[DK (n - 1) (by lia) r,show n - 1 - (n - 1)=0 by lia]
theorem q_ (f g:Nat->Int):∀n,sg f n+sg g n=sg (fun r=>f r+g r) n
 | 0=>rfl
 | n+1=>by rw[iV,iV,iV,<- q_ f g n];lia
theorem ke {X:Type} (F:X->Nat->Int) (n:Nat):∀L:List X,(L.map fun x=>sg (F x) n).sum=sg (fun r=>(L.map fun x=>F x r).sum) n
 | []=>(iR fun _ _=>rfl).symm
 | x::L=>by
  rw[LW,Ni,ke F n L,q_]
  rfl
noncomputable def Fb:List Bool->Nat->Nat->Int
 | [],0,_=>1
 | [],_+1,_=>0
 | _::bs,0,l=>sg (fun r=>if r<l then 0 else Fb bs 0 r) (bs.length+1)
 | b::bs,k+1,l=>sg (fun r=>if r<l then (if b=true then Fb bs k r else 0) else Fb bs (k+1) r) (bs.length+1)
noncomputable def Wb:List Bool->Nat->Int
 | [],_=>1
 | b::bs,l=>sg (fun r=>if r<l then (if b=true then Wb bs r else 0) else Wb bs r) (bs.length+1)
noncomputable def inF (F S:List Int):Bool:=S.all fun x=>F.any (· == x)
theorem DB (p m:Nat) (S:List Int):bo (p+1) m ((p:Int)::S)=bo (p+1) m S:=by
 unfold bo
 refine L9 fun i _=>?_
 rw[N1]
 have:((p:Int) == ((p+1+i:Nat):Int))=false:=by simp;lia
 rw[this,Bool.false_or]
theorem HC {p m k:Nat}{S:List Int} (h:S∈CB (p+1) m k):S.any (· == ((p:Nat):Int))=false:=by
 rw[<- sy] at h
 have:=(tP m (p+1) S (Mj.mp h).1).1.2
 rw[O8]
 intro x hx
 have:=this x hx
 simp;lia
theorem Bh {X:Type}{f:X->Int}:∀{L:List X},(∀x∈L,f x=0)->(L.map f).sum=0
 | [],_=>rfl
 | x::L,h=>by rw[LW,Ni,h x LL,Bh fun y hy=>h y (td _ hy)];rfl
theorem uV {X:Type} (c:Prop) [Decidable c] (f:X->Int) (L:List X):(L.map fun x=>if c then f x else 0).sum=if c then (L.map f).sum else 0:=by
 by_cases h:c
 ·simp[h]
 ·simp only[if_neg h];exact Bh fun _ _=>rfl
theorem xW:∀(m p k:Nat) (F:List Int) (l:Nat),(((CB p m k).filter (inF F)).map fun S=>Jb (bo p m S) l).sum=Fb (bo p m F) k l
 | 0,p,0,F,l=>rfl
 | 0,p,k+1,F,l=>rfl
 | m+1,p,0,F,l=>by
  rw[show CB p (m+1) 0=[[]] from rfl,L_,if_pos (by rfl),List.filter_nil,LW,NS,Ni,List.sum_nil,PX,x_,x_]
  show sg _ ((bo (p+1) m []).length+1)=sg _ ((bo (p+1) m F).length+1)
  rw[ju,ju]
  refine bE fun r _=>?_
  have ih:=xW m (p+1) 0 F r
  rw[show CB (p+1) m 0=[[]] by cases m<;>rfl,L_,if_pos (by rfl),List.filter_nil,LW,NS,Ni,List.sum_nil,PX] at ih
  rw[ih]
  by_cases c:r<l<;>simp[c]
 | m+1,p,k+1,F,l=>by
  have e1:((((CB (p+1) m k).map fun s=>(p:Int)::s).filter (inF F)).map fun S=>Jb (bo p (m+1) S) l).sum=sg (fun r=>if r<l then (if F.any (· == ((p:Nat):Int))=true then Fb (bo (p+1) m F) k r else 0) else 0) (m+1):=by
   rw[Oe,Mf]
   have q:((CB (p+1) m k).filter (inF F ∘ fun s=>(p:Int)::s))=if F.any (· == ((p:Nat):Int))=true then (CB (p+1) m k).filter (inF F) else []:=by
    by_cases c:F.any (· == ((p:Nat):Int))=true
    ·rw[if_pos c]
     exact Na fun S _=>by show inF F ((p:Int)::S)=_;unfold inF;rw[NP,c,QI]
    ·rw[if_neg c]
     refine Nc.mpr fun S _=>?_
     show ¬ inF F ((p:Int)::S)=true
     unfold inF;rw[NP,Bool.eq_false_iff.mpr c,Bool.false_and];decide
   rw[q]
   by_cases c:F.any (· == ((p:Nat):Int))=true
   ·rw[if_pos c]
    have:((fun S=>Jb (bo p (m+1) S) l) ∘ fun s=>(p:Int)::s)=fun S=>sg (fun r=>if r<l then Jb (bo (p+1) m S) r else 0) (m+1):=by
     funext S
     show Jb (bo p (m+1) ((p:Int)::S)) l=_
     rw[x_,DB,N1,show((p:Int) == (p:Int))=true by simp,Bool.true_or]
     show sg _ ((bo (p+1) m S).length+1)=_
     rw[ju]
     exact bE fun r _=>by by_cases z:r<l<;>simp[z]
    rw[this,ke]
    refine bE fun r _=>?_
    rw[uV,xW m (p+1) k F r,if_pos c]
   ·simp only[if_neg c]
    exact(iR fun r _=>by split<;>rfl).symm
  have e2:(((CB (p+1) m (k+1)).filter (inF F)).map fun S=>Jb (bo p (m+1) S) l).sum=sg (fun r=>if r<l then 0 else Fb (bo (p+1) m F) (k+1) r) (m+1):=by
   have:(((CB (p+1) m (k+1)).filter (inF F)).map fun S=>Jb (bo p (m+1) S) l)=((CB (p+1) m (k+1)).filter (inF F)).map fun S=>sg (fun r=>if ¬ r<l then Jb (bo (p+1) m S) r else 0) (m+1):=L9 fun S hS=>by
    rw[x_,HC (Mj.mp hS).1]
    show sg _ ((bo (p+1) m S).length+1)=_
    rw[ju]
    exact bE fun r _=>by by_cases z:r<l<;>simp[z]
   rw[this,ke]
   refine bE fun r _=>?_
   rw[uV,xW m (p+1) (k+1) F r]
   by_cases z:r<l<;>simp[z]
  rw[show CB p (m+1) (k+1)=(CB (p+1) m k).map (fun s=>(p:Int)::s)++CB (p+1) m (k+1) from rfl,Oy,Oc,OY,e1,e2,q_,x_]
  show _=sg _ ((bo (p+1) m F).length+1)
  rw[ju]
  exact bE fun r _=>by by_cases z:r<l<;>simp[z]
theorem vm:∀(bs:List Bool) (K l:Nat),(bs.filter id).length<=K->((LK (K+1)).map fun k=>Fb bs k l).sum=Wb bs l
 | [],K,l,_=>by
  rw[MD,LW,Ni,Mf,Bh (f:=(fun k=>Fb [] k l) ∘ Rm) fun _ _=>rfl];rfl
 | b::bs,K,l,h=>by
  rw[MD,LW,Ni,Mf]
  have e:((LK K).map ((fun k=>Fb (b::bs) k l) ∘ Rm)).sum=sg (fun r=>((LK K).map fun k=>if r<l then (if b=true then Fb bs k r else 0) else Fb bs (k+1) r).sum) (bs.length+1):=
   ke (fun k r=>if r<l then (if b=true then Fb bs k r else 0) else Fb bs (k+1) r) (bs.length+1) (LK K)
  rw[e]
  show sg (fun r=>if r<l then 0 else Fb bs 0 r) (bs.length+1)+_=sg _ (bs.length+1)
  rw[q_]
  refine bE fun r _=>?_
  by_cases z:r<l
  ·simp only[if_pos z]
   rw[uV,QX]
   by_cases c:b=true
   ·subst c
    rw[L_,if_pos (show id true=true from rfl),Mi] at h
    obtain⟨K',rfl⟩:∃K',K=K'+1:=⟨K - 1,by lia⟩
    rw[if_pos rfl,if_pos rfl,vm bs K' r (by lia)]
   ·rw[if_neg c,if_neg c]
  ·simp only[if_neg z]
   have hb:(bs.filter id).length<=K:=by
    rw[L_] at h
    split at h
    ·rw[Mi] at h;lia
    ·exact h
   rw[<- vm bs K r hb,MD,LW,Ni,Mf];rfl
theorem D0:∀bs:List Bool,wv bs=(LK (bs.length+1)).map (Wb bs)
 | []=>rfl
 | b::bs=>by
  have ih:=D0 bs
  have il:(wv bs).length=bs.length+1:=by rw[ih];simp
  unfold wv
  by_cases c:b=true
  ·subst c
   rw[if_pos rfl,il]
   have:∀l,Wb (true::bs) l=(wv bs).sum:=fun l=>by
    rw[ih]
    show sg _ _=sg _ _
    exact bE fun r _=>by simp
   refine(List.eq_replicate_iff.mpr ⟨by simp,fun x hx=>?_⟩).symm
   obtain⟨l,_,rfl⟩:=L5.mp hx
   exact this l
  ·rw[if_neg c,qh,il]
   refine L9 fun l hl=>?_
   have hl:=Mt.mp hl
   rw[ih,xH _ (by lia),<- qv _ (by lia)]
   show _=sg _ (bs.length+1)
   refine bE fun r _=>?_
   by_cases z:r<l
   ·rw[if_pos z,if_neg c,if_neg (by simp;exact z)]
   ·rw[if_neg z,if_pos (by simp;lia)]
theorem Aq {n:Nat}{S:List Int} (s:Sub (n - 1) S):((bo 0 (n - 1) S).filter id).length=S.length:=by
 conv=>rhs;rw[<- qK s]
 unfold aA bo
 rw[Oe,LQ,LQ]
 congr 2
 funext i
 show S.any (· == ((0+i:Nat):Int))=mb S i
 rw[NQ];rfl
theorem qW {n k:Nat}{S:List Int} (h:S∈SO n k):Sub (n - 1) S:=⟨(Ab h).1.1,fun x hx=>by have:=(Ab h).1.2 x hx;lia⟩
theorem yN {n:Nat}{F:List Int} (h1:1<=n) (hn:n<=12) (s:Sub (n - 1) F):((LK (F.length+1)).map fun k=>(((SO n k).filter (inF F)).map (JV n)).sum).sum=i5 n F:=by
 have e:∀k,(((SO n k).filter (inF F)).map (JV n)).sum=sg (fun r=>Fb (bo 0 (n - 1) F) k r) n:=fun k=>by
  have:((SO n k).filter (inF F)).map (JV n)=((CB 0 (n - 1) k).filter (inF F)).map fun S=>sg (Jb (bo 0 (n - 1) S)) n:=L9 fun S _=>J9 h1
  rw[this,ke]
  exact bE fun r _=>xW (n - 1) 0 k F r
 simp only[e]
 rw[ke]
 have w:=of_decide_eq_true (L4.mp (Iw (by lia) h1) F s.mem)
 rw[<- w,D0,ju,show n - 1+1=n by lia]
 show _=sg _ n
 exact bE fun r _=>vm _ _ _ (Qm (Aq s))
theorem Dd {n k:Nat} (h1:1<=n) (hn:n<=12) (hk:k<n):((SO n k).map (JV n)).sum=zP n k:=by
 have w:=of_decide_eq_true (G3 (by lia) hk)
 rw[<- w]
 congr 1
 exact L9 fun S hS=>KC h1 (qW hS)
end FC
namespace FC
open PySem L2 L2.FE L2.Srt
theorem zy {m:Nat} (L:List (List Int)):cn m (L.map tpI)=true:=pB fun b=>by simp[tpI,iL]
noncomputable def Kq (A:List D):Prop:=∃L:List (List Int),A=L.map tpI
noncomputable def MM2:MI:=(bz (ah bK (aa (ae 2) (aa (ae 0) aj))))
noncomputable def MCO:ME:=jV (eS fC (aa (ae 0) aj)) [0] MM2 (ae 1)
theorem BD {n:Nat}{h:Hh}{d1 d2 d3:Option D} (w:Wf h) (h1:1<=n) (hn:n<=12):MCO [some (.int n),d1,d2,d3] h=.ok (.ref h.length) (h++[.lst ((AS n).map tpI)]):=by
 have z:n<=1000000:=by lia
 have s:eS fC (aa (ae 0) aj) [some (.int n),d1,d2,d3] h=.ok (.snap (bC 0 n)) h:=by simp[z]
 have q:=Hc Kq (L:=LK n) (sr:=.snap (bC 0 n)) (mi:=fun _ h=>.ok (.snap (bC 0 n)) h) (ix:=[0]) (env:=[some (.int n),d1,d2,d3]) (mi2:=MM2) (te:=ae 1) (H:=h) (fun(k:Nat)=>D.int k) (SO n) (fun _ s=>tpI s) (fun _ s=>tpI s) 2048
  rfl (by show(bC 0 n).length=_;rw[cX];simp) (fun A i=>by show some ((bC 0 n)[i]?)=_;rw[cX]) ⟨[],rfl⟩
  (fun k hk A ⟨L,e⟩=>by
   subst e
   have hk:k<n:=by simpa using hk
   have xm:=lM (n:=n) (k:=k) (h:=h++[.lst (L.map tpI)]) (w.app (o:=.lst (L.map tpI)) (zy _)) h1 hn (by lia)
   have cp:dB [0] [some (.int n),d1,d2,d3] (some (.int k)) none=[some (.int k),none,some (.int n)]:=by simp[dB]
   rw[cp]
   have e2:(SO n k).map (fun s=>tpI s)=(SO n k).map tpI:=rfl
   rw[e2]
   generalize (SO n k).map tpI=W at *
   simp[MM2,xm])
  (fun k hk s hs A ⟨L,e⟩=>by
   have cp:dB [0] [some (.int n),d1,d2,d3] (some (.int k)) (some (tpI s))=[some (.int k),some (tpI s),some (.int n)]:=by simp[dB]
   rw[cp]
   exact⟨by simp,L++[s],by rw[e];simp⟩)
  (fun k hk=>sY hn) (by rw[Pd];lia)
 have e:((LK n).flatMap fun k=>(SO n k).map fun s=>tpI s)=(AS n).map tpI:=by unfold AS;rw[Qe]
 rw[e] at q
 unfold MCO jV
 rw[s,cu,q];rfl
theorem Dt {n:Nat}{h t:Hh} (h1:1<=n) (hn:n<=12):ki aD [.ref h.length] (h++.lst ((AS n).map tpI)::t)=.ok (.frl ((LS n).map tpI)) (h++.lst ((AS n).map tpI)::t):=by
 obtain⟨e1,e2⟩:=Cf h1 hn
 have pm:=xV h1
 have al:(AS n).length<=2048:=by
  rw[pm.length_eq];unfold LS;rw[mI]
  exact L0 (NN (by decide) (by lia:n - 1<=11)) (by decide)
 have l:gm (.ref h.length) (h++.lst ((AS n).map tpI)::t)=some ((AS n).map tpI):=f_
 delta ki;dsimp only
 rw[l]
 dsimp only
 rw[LQ]
 have tp:∀L:List (List Int),L.map tpI=L.map uj:=fun _=>rfl
 by_cases c:(AS n).length<2
 ·rw[if_pos c]
  have:lg (AS n)=AS n:=by
   generalize AS n=L at c
   match L,c with
   | [],_=>rfl
   | [x],_=>rfl
  rw[<- e1,this];rfl
 ·rw[if_neg c,tp (AS n),i7]
  dsimp only
  have ok:okE (AS n)=true:=by
   unfold okE
   simp only[MC,decide_eq_true_eq,L4]
   refine⟨⟨⟨⟨by lia,by lia⟩,?_⟩,fun s hs=>?_⟩,e2⟩
   ·unfold AS
    obtain⟨m,rfl⟩:∃m,n=m+1:=⟨n - 1,by lia⟩
    rw[MD,Pe,EN];rfl
   ·have hi:=i6 (n:=n) (pm.subset hs)
    exact⟨by lia,fun x hx=>by have:=hi.1.2 x hx;lia⟩
  rw[if_pos ok,e1];rfl
theorem Bg {n:Nat}{s:List Int} (h:s∈LS n):Sub (n - 1) s:=⟨(i6 h).1.1,fun x hx=>by have:=(i6 h).1.2 x hx;lia⟩
noncomputable def JL (n:Nat):List Int:=(LS n).map (JV n)
noncomputable def MX (n:Nat):Int:=lE (JL n)
noncomputable def TM (n:Nat):List (List Int):=(LS n).filter fun s=>JV n s == MX n
noncomputable abbrev TD (n:Nat):D:=.tup [.int (MX n),.tup ((TM n).map tpI)]
theorem lZ:∀{X:Type} (f g:X->D) (L:List X),gq (L.map f) (L.map g)=L.map fun x=>D.tup [f x,g x]
 | X,f,g,[]=>rfl
 | X,f,g,x::L=>by
  rw[LW,LW,LW,<- lZ f g L];rfl
theorem Ho {k:Nat}{L:List (List Int)}:deep (k+3) (.tup (L.map tpI))=true:=rX (k:=k)
theorem Gb (n:Nat):0<(JL n).length:=by unfold JL LS;rw[LQ,qQ];simp
theorem Iq {ns:List Int}{h:Hh} (hp:0<ns.length):iZ [.frl (ns.map D.int)] h=.ok (.int (lE ns)) h:=by
 have l:gm (.frl (ns.map D.int)) h=some (ns.map D.int):=rfl
 simp only[iZ,l,eI,if_pos hp]
theorem Dg:dg=fun ds h=>((b9 4 (az (cW (ah aE (aa (ae 0) (aa (cC (.int 1)) (aa (cC (.int 10)) aj)))))
  (az (aV 1 (ah (ki aD) (aa MCO aj)))
  (az (aV 2 (bu aD (bz (ae 1)) [0] tt1 (ah aB (aa (ae 1) (aa (ae 0) aj)))))
  (az (aV 3 (ah iZ (aa (ae 2) aj)))
  (aW (ah d8 (aa (ae 3) (aa (ah dE (aa (bu aD (t5 (aa (ae 1) (aa (ae 2) aj))) [3] (unp (aw asB (ao dEq (ae 1) (ae 2)))) (unp (ae 0))) aj)) aj))))))))) ds h).bind (cV h):=rfl
theorem FX {n:Nat}{h:Hh} (w:Wf h) (h1:1<=n) (hn:n<=10):dg [.int n] h=.ok (TD n) h:=by
 have n1:=gD (h:=h) (i:=(n:Int)) (a:=1) (b:=10) (by lia)
 have ac:=BD (n:=n) (h:=h) (d1:=none) (d2:=none) (d3:=none) w h1 (by lia)
 have so:=Dt (n:=n) (h:=h) (t:=[]) h1 (by lia)
 have w1:Wf (h++[.lst ((AS n).map tpI)]):=w.app (o:=.lst ((AS n).map tpI)) (zy _)
 have ll:(LS n).length<=2048:=by unfold LS;rw[mI];exact L0 (NN (by decide) (by lia:n - 1<=11)) (by decide)
 have cj:bX tt1 (ah aB (aa (ae 1) (aa (ae 0) aj))) (fun d=>[some d,some (.int n)]) ((LS n).map tpI) (h++[.lst ((AS n).map tpI)])=.ok ((LS n).map fun s=>D.int (JV n s)) (h++[.lst ((AS n).map tpI)]):=fN tpI (fun s=>D.int (JV n s)) (LS n) (fun s hs=>by
  have xj:=m9 (n:=n) (h:=h++[.lst ((AS n).map tpI)]) h1 (by lia) (Bg hs)
  generalize (AS n).map tpI=W at *
  unfold tpI
  simp[xj])
 have mx:iZ [.frl ((LS n).map fun s=>D.int (JV n s))] (h++[.lst ((AS n).map tpI)])=.ok (.int (MX n)) (h++[.lst ((AS n).map tpI)]):=by
  have e:((LS n).map fun s=>D.int (JV n s))=(JL n).map D.int:=by unfold JL;rw[Mf];rfl
  rw[e];exact Iq (Gb n)
 have cz:bX (unp (aw asB (ao dEq (ae 1) (ae 2)))) (unp (ae 0)) (fun d=>[some d,some (.int (MX n))]) (gq ((LS n).map tpI) ((LS n).map fun s=>D.int (JV n s))) (h++[.lst ((AS n).map tpI)])=.ok ((TM n).map tpI) (h++[.lst ((AS n).map tpI)]):=by
  rw[lZ]
  rw[comp_map (fun s=>D.tup [tpI s,.int (JV n s)]) (fun s=>JV n s == MX n) tpI (LS n) (fun s _=>⟨by simp,fun _=>by simp⟩)]
  rfl
 have ex:cV h (TD n) (h++[.lst ((AS n).map tpI)])=.ok (TD n) h:=fH w (by
  show(true&&(deep 7 (.tup ((TM n).map tpI))&&true))=true
  rw[Ho (k:=4)];rfl)
 have zl:(gq ((LS n).map tpI) ((LS n).map fun s=>D.int (JV n s))).length<=1000000:=by rw[lZ,LQ];lia
 have lt:((LS n).map tpI).length<=1000000:=by rw[LQ];lia
 rw[Dg]
 unfold TD at *
 generalize (AS n).map tpI=A at *
 generalize ((LS n).map fun s=>D.int (JV n s))=J at *
 generalize (LS n).map tpI=S at *
 generalize (TM n).map tpI=T at *
 generalize MX n=M at *
 simp[bq,n1,ac,so,lt,cj,mx,zl,cz,ex]
theorem uI (r):kT r []=0:=by cases r<;>rfl
theorem jG (x:Int) (r:Nat):∀xs:List Int,kT (xs.length+1+r) (xs++[x])=kT (xs.length+1+r) xs+(x+1)*100 ^ r
 | []=>by
  rw[show([]:List Int).length+1+r=r+1 by grind,uI]
  show(x+1)*100 ^ r+kT r []=_
  rw[uI,PX,QX]
 | y::ys=>by
  have e:=jG x r ys
  rw[show(y::ys).length+1+r=(ys.length+1+r)+1 by grind]
  show(y+1)*100 ^ (ys.length+1+r)+kT (ys.length+1+r) (ys++[x])=(y+1)*100 ^ (ys.length+1+r)+kT (ys.length+1+r) ys+_
  lia
theorem vK (r):∀xs:List Int,∃q,kT (xs.length+r) xs=100 ^ r*q
 | []=>⟨0,by rw[uI,Int.mul_zero]⟩
 | y::ys=>by
  obtain⟨q,e⟩:=vK r ys
  rw[show(y::ys).length+r=(ys.length+r)+1 by grind]
  refine⟨(y+1)*100 ^ ys.length+q,?_⟩
  show(y+1)*100 ^ (ys.length+r)+kT (ys.length+r) ys=_
  grind
theorem Gf (hx:xs.length=m) (hy:ys.length=m) (lt:kT (m+r) xs<kT (m+r) ys):kT (m+r) xs+100 ^ r<=kT (m+r) ys:=by
 obtain⟨a,ea⟩:=vK r xs
 obtain⟨b,eb⟩:=vK r ys
 rw[hx] at ea
 rw[hy] at eb
 have P:(0:Int)<100 ^ r:=P_ (by decide)
 rw[ea,eb] at lt ⊢
 have ab:a<b:=Int.lt_of_mul_lt_mul_left lt (by lia)
 have:=Int.mul_le_mul_of_nonneg_left (show a+1<=b by lia) (QY P)
 grind
theorem A5 (hn:n<=12):∀m,m<=n->(fll n B m).Pairwise (fun a b=>kT 20 a<kT 20 b)
 | 0,_=>M_ _ _
 | m+1,hm=>by
  show((fll n B m).flatMap fun xs=>(nxB n B xs).map fun x=>xs++[x]).Pairwise _
  obtain⟨r,er⟩:∃r,20=m+1+r:=⟨19 - m,by lia⟩
  have P:(0:Int)<100 ^ r:=P_ (by decide)
  rw[List.pairwise_flatMap]
  constructor
  ·intro xs hx
   have lx:=(ft m xs hx).1
   rw[MH]
   refine(Az (n:=n) (B:=B) (xs:=xs)).imp fun{x y} lt=>?_
   have a:=jG x r xs
   have b:=jG y r xs
   simp_all
  ·refine(A5 hn m (by lia)).imp_of_mem fun{xs ys} hx hy lt u hu v hv=>?_
   obtain⟨x,hx2,rfl⟩:=L5.mp hu
   obtain⟨y,hy2,rfl⟩:=L5.mp hv
   have lx:=(ft m xs hx).1
   have ly:=(ft m ys hy).1
   have bx:=(ft m xs hx).2.snoc (gT hx2)
   have by':=(ft m ys hy).2.snoc (gT hy2)
   have x1:x<n:=bx.hi x (by simp)
   have y0:0<=y:=by'.lo y (by simp)
   have a:=jG x r xs
   have b:=jG y r ys
   rw[lx,<- er] at a
   rw[ly,<- er] at b
   have f:=Gf (r:=r+1) lx ly (by grind)
   rw[show m+(r+1)=20 by lia,Int.pow_succ] at f
   rw[a,b]
   have u1:=Nb (show x+1<=99 by lia) (QY P)
   have u2:=Int.mul_nonneg (show 0<=y+1 by lia) (QY P)
   lia
end FC
namespace FC
open PySem L2 L2.FE
theorem AB {n:Nat}{fl:Nat->Bool}:∀(m:Nat) (l:Int),Jr n (fun i=>!fl i) m ((m:Int) - l)=Jr n fl m l
 | 0,l=>rfl
 | m+1,l=>by
  show sg _ (m+1)=sg _ (m+1)
  rw[<- zF]
  refine bE fun r hr=>?_
  have e:=AB (n:=n) (fl:=fl) m (r:Int)
  rw[show(m:Int) - (r:Int)=((m+1 - 1 - r:Nat):Int) by lia] at e
  rw[e]
  have:decide (((m+1 - 1 - r:Nat):Int)<((m+1:Nat):Int) - l) = !decide ((r:Int)<l):=by
   by_cases c:(r:Int)<l
   ·have:¬ ((m+1 - 1 - r:Nat):Int)<((m+1:Nat):Int) - l:=by lia
    simp only[c,this,decide_true,decide_false,Pw]
   ·have:((m+1 - 1 - r:Nat):Int)<((m+1:Nat):Int) - l:=by lia
    simp only[c,this,decide_true,decide_false,PZ]
  rw[this]
  have nn:∀a b:Bool,((!a) = !b)=(a=b):=by decide
  simp only[nn]
theorem wM {n:Nat}{fl:Nat->Bool}{xs:List Int} (nd:xs.Nodup):fok (fun i=>!fl i) (bD n xs)=fok fl xs:=by
 unfold fok
 rw[f6,M3,L4,L4]
 refine forall_congr' fun i=>imp_congr_right fun hi=>?_
 have hi:=Mt.mp hi
 have c1:∀j,j<xs.length->gI (bD n xs) j=(n:Int) - 1 - gI xs j:=fun j hj=>by
  rw[eD (by rw[f6];exact hj),eD hj];simp[bD]
 rw[c1 _ (by lia),c1 _ (by lia)]
 have ne:=MB.mp nd i (i+1) (by lia) (by lia) (by lia)
 rw[<- eD (by lia),<- eD (by lia)] at ne
 have:decide ((n:Int) - 1 - gI xs (i+1)<(n:Int) - 1 - gI xs i) = !decide (gI xs (i+1)<gI xs i):=by
  by_cases c:gI xs (i+1)<gI xs i
  ·have:¬ (n:Int) - 1 - gI xs (i+1)<(n:Int) - 1 - gI xs i:=by lia
   simp only[c,this,decide_true,decide_false,Pw]
  ·have:(n:Int) - 1 - gI xs (i+1)<(n:Int) - 1 - gI xs i:=by lia
   simp only[c,this,decide_true,decide_false,PZ]
 rw[this]
 dsimp only
 cases decide (gI xs (i+1)<gI xs i)<;>cases fl i<;>decide
theorem zC {n:Nat}{fl:Nat->Bool} (xs:List Int) (b:Beg n xs) (h:xs.length≠0):jcV n (fun i=>!fl i) (bD n xs)=jcV n fl xs:=by
 unfold jcV
 rw[f6,if_neg h,if_neg h,wM b.nd,E7 b h,AB]
theorem w_ {n:Nat}{fl:Nat->Bool} (h1:1<=n):jcV n (fun i=>!fl i) []=jcV n fl []:=by
 have b:=Beg.nil n
 rw[(gr fl h1).sum [] b (by simp;lia),(gr (fun i=>!fl i) h1).sum [] b (by simp;lia)]
 show cS _ _ _=cS _ _ _
 have e:aQ n []=(bD n (aQ n [])).reverse:=by
  have:=mR (n:=n) (xs:=[])
  rwa [show bD n []=[] from rfl] at this
 conv=>lhs;rw[e,rz]
 exact p9 (B:=jcV n fl) (B':=jcV n fun i=>!fl i) (xs:=[]) zC b fun _ z=>z
theorem Et {n:Nat}{fl:Nat->Bool}{t:Int}{xs:List Int} (h1:1<=n) (h0:0<=t) (ht:t<jcV n fl []) (e:(grd n (jcV n fl) n [] t).1=xs):Ord n xs/\cM xs=aA n fl/\cM (bD n xs)=aA n (fun i=>!fl i)/\(grd n (jcV n fun i=>!fl i) n [] (jcV n fl [] - 1 - t)).1=bD n xs:=by
 obtain⟨ys,e1,o,f,rk⟩:=Dr (fl:=fl) h1 h0 ht
 have:ys=xs:=e1.symm.trans e
 subst this
 have o2:Ord n (bD n ys):=xf o
 have fk:=(j3 o.len h1).mpr f
 have fc:cM (bD n ys)=aA n (fun i=>!fl i):=(j3 (fl:=fun i=>!fl i) o2.len h1).mp (by rw[wM o.nd];exact fk)
 refine⟨o,f,fc,?_⟩
 have r:=AN (gr fl h1) (B':=jcV n fun i=>!fl i) zC ys [] o.beg
 rw[show bD n []=[] from rfl,rk,M1,lK h1 o.len,if_pos fk] at r
 have:=(Be (fl:=fun i=>!fl i) h1 o2 fc).2.2
 rwa [show rkL n (jcV n fun i=>!fl i) [] (bD n ys)=jcV n fl [] - 1 - t by lia] at this
theorem Ga {n:Nat}{fl:Nat->Bool}{t u:Int} (h1:1<=n) (hn:n<=12) (h0:0<=t) (le:t<=u) (hu:u<jcV n fl []):L2.Srt.kT 20 (grd n (jcV n fl) n [] t).1<=L2.Srt.kT 20 (grd n (jcV n fl) n [] u).1:=by
 rcases Int.lt_or_eq_of_le le with lt | rfl
 ·have F:=Iz (n:=n) (fl:=fl) h1
  have a:=Aw (gr fl h1) F (t:=t.toNat) (by lia)
  have b:=Aw (gr fl h1) F (t:=u.toNat) (by lia)
  rw[show((t.toNat:Nat):Int)=t by lia] at a
  rw[show((u.toNat:Nat):Int)=u by lia] at b
  obtain⟨la,ea⟩:=Mu.mp a
  obtain⟨lb,eb⟩:=Mu.mp b
  have:=MB.mp (A5 (n:=n) (B:=jcV n fl) hn n (LH _)) t.toNat u.toNat la lb (by lia)
  rw[ea,eb] at this
  lia
 ·exact NV _
theorem tG (bt:Nat->Nat->Bool):∀k,argBest bt k<=k
 | 0=>LH _
 | k+1=>by
  have ih:=tG bt k
  unfold argBest
  split<;>lia
theorem ur (ns:List Int):∀k i,i<=k->ns.getD i 0<=ns.getD (argBest (fun i j=>decide (ns.getD i 0 > ns.getD j 0)) k) 0
 | 0,i,h=>by have:i=0:=by lia
             subst this;exact NV _
 | k+1,i,h=>by
  have ih:=ur ns k
  unfold argBest
  split
  ·rename_i c
   simp only[decide_eq_true_eq] at c
   by_cases e:i=k+1
   ·subst e;exact NV _
   ·have:=ih i (by lia);lia
  ·rename_i c
   simp only[decide_eq_true_eq] at c
   by_cases e:i=k+1
   ·subst e;lia
   ·exact ih i (by lia)
theorem max_mem {ns:List Int} (h:0<ns.length):lE ns∈ns:=by
 unfold lE
 have:=tG (fun i j=>decide (ns.getD i 0 > ns.getD j 0)) (ns.length - 1)
 rw[MR,LU (by lia)]
 exact Oq _
theorem le_max {ns:List Int}{x:Int} (h:x∈ns):x<=lE ns:=by
 obtain⟨i,hi,e⟩:=List.getElem_of_mem h
 have:=ur ns (ns.length - 1) i (by lia)
 rw[MR (i:=i),LU hi,Option.getD_some,e] at this
 exact this
end FC
namespace FC
open PySem L2 L2.FE L2.Srt
noncomputable def ndF:Int × List Int->Int->Int × List Int:=fun s z=>(s.1+z,s.2++[s.1+z - 1])
theorem DS:∀(S:List Int) (a n:Int) (L:List Int),(szP a S n).foldl ndF (a,L)=(n,L++S++[n - 1])
 | [],a,n,L=>by
  show(a+(n - a),L++[a+(n - a) - 1])=_
  rw[show a+(n - a)=n by lia,NF]
 | x::r,a,n,L=>by
  rw[szP,Oz,show ndF (a,L) (x+1 - a)=(x+1,L++[x]) from Prod.ext (by show a+(x+1 - a)=_;lia) (by show L++[a+(x+1 - a) - 1]=_;rw[show a+(x+1 - a) - 1=x by lia]),DS r (x+1) n,Mr,Mr,Mr]
  rfl
theorem Ed:∀(S:List Int) (a n:Int),S.Pairwise (· < ·)->(∀x∈S,a<=x/\x+1<n)->a<n->∀z∈szP a S n,1<=z
 | [],a,n,_,_,l=>by simp[szP];lia
 | x::r,a,n,p,h,l=>by
  intro z hz
  have hx:=h x (by simp)
  rw[szP] at hz
  rcases LR.mp hz with rfl | hz
  ·lia
  ·refine Ed r (x+1) n (L6.mp p).2 (fun y hy=>?_) hx.2 z hz
   have:=(L6.mp p).1 y hy
   have:=h y (by simp[hy])
   lia
noncomputable def BZ:MS:=(bV (fY (d_ (aw eZ (ah dM (aa (ae 1) aj)))) (aw asB (ao dLt (ae 1) (cC (.int 1))))) (aW (cC (.bl false))) a9)
theorem Hm:dC=b9 2 (az (bV (fY (d_ (aw eZ (cUn (qP "tuple") (ae 0)))) (aw asB (ao dEq (ah dJ (aa (ae 0) aj)) (cC (.int 0))))) (aW (cC (.bl false))) a9)
  (az (eL (bz (ae 0)) (gN 1) BZ) (aW (ao dLe (ah gi (aa (ae 0) aj)) (cC (.int 12)))))):=rfl
theorem CM {zs:List Int}{h:Hh} (hz:zs≠[]) (h1:∀z∈zs,1<=z) (hs:zs.sum<=12):dC [.tup (zs.map D.int)] h=.ok (.bl true) h:=by
 obtain⟨q,_⟩:=gy (tg:=gN 1) (body:=BZ) (fun(s:Option D)=>[some (.tup (zs.map D.int)),s]) (fun _=>h) D.int (fun s x=>some (.int x)) (fun r s=>∀x∈r,1<=x) (fun s x r hr=>⟨fun y hy=>hr y (td _ hy),.inl (by
   have:=hr x LL
   have z:¬ x<1:=by lia
   simp[BZ,z])⟩) zs none h1
 have l:zs.length≠0:=fun e=>hz (Nh e)
 rw[Hm]
 simp[bq,q,hs,hz]
noncomputable def BN:MS:=(az (oB 2 xN (ae 3)) (cW (kQ eM (ae 1) (aa (ao bR (ae 2) (cC (.int 1))) aj))))
theorem Ar {X:Type} (xs:List X):iW xs none (some (-1))=xs.dropLast:=by
 unfold iW
 rw[HT.ny]
 have:HT.sIx xs.length xs.length (some (-1))=xs.length - 1:=by
  unfold HT.sIx
  simp
  lia
 rw[this,List.dropLast_eq_take]
 simp
theorem GA {n:Nat}{ds:List D}{lo hi:Option Int}{h:Hh} (e:aH h n=some ds):rE aD (.ref n) lo hi h=.ok (.frl (cutD ds lo hi)) h:=by delta rE;dsimp only;rw[e];rfl
theorem Dh {n:Nat}{S:List Int}{h:Hh} (w:Wf h) (h1:1<=n) (hn:n<=12) (s:Sub (n - 1) S):fT [.tup ((szP 0 S n).map D.int)] h=.ok (.tup [.int n,.tup (S.map D.int)]) h:=by
 have sl:=s.len
 obtain⟨e,q⟩:=gy (tg:=gN 3) (body:=BN) (fun(s:(Int × List Int) × Option D)=>[some (.tup ((szP 0 S n).map D.int)),some (.ref h.length),some (.int s.1.1),s.2]) (fun s=>h++[.lst (s.1.2.map D.int)]) D.int (fun s z=>(ndF s.1 z,some (.int z))) (fun r s=>s.1.2.length+r.length<=60/\r.foldl ndF s.1=((n:Int),[]++S++[(n:Int) - 1])) (fun s x r ⟨i1,i2⟩=>⟨⟨by
   rw[Mi] at i1
   show(s.1.2++[s.1.1+x - 1]).length+r.length<=60
   rw[Mn,List.length_singleton];lia,i2⟩,.inl (by
   obtain⟨⟨n,L⟩,y⟩:=s
   dsimp only at i1 ⊢
   rw[Mi] at i1
   have z:(L.map D.int).length<1000000:=by rw[LQ];lia
   unfold ndF
   dsimp only
   rw[Oc]
   generalize L.map D.int=LD at *
   simp[BN,z])⟩) (szP 0 S n) ((0,[]),none) ⟨by rw[lR];simp;lia,DS S 0 n []⟩
 have fin:=q.2
 generalize (szP 0 S n).foldl (fun(s:(Int × List Int) × Option D) z=>(ndF s.1 z,some (D.int z))) ((0,[]),none)=s9 at *
 obtain⟨⟨m,L⟩,y⟩:=s9
 have fin:(m,L)=((n:Int),[]++S++[(n:Int) - 1]):=fin
 injection fin with f1 f2
 subst f1 f2
 rw[M1] at e
 have m1:cutD ((S++[(n:Int) - 1]).map D.int) none (some (-1))=S.map D.int:=by rw[iw,Ar,List.dropLast_concat]
 have ex:cV h (.tup [.int n,.tup (S.map D.int)]) (h++[.lst ((S++[(n:Int) - 1]).map D.int)])=.ok (.tup [.int n,.tup (S.map D.int)]) h:=fH w (by simp)
 have z2:(S.map D.int).length<=1000000:=by rw[LQ];lia
 have zg:=CM (zs:=szP 0 S n) (h:=h) (fun z=>by have:=lR S 0 n;rw[z] at this;simp at this) (Ed S 0 n s.up (fun x hx=>by have:=s.inn x hx;lia) (by lia)) (by rw[lN];lia)
 have sb:fT=fun ds h=>((b9 4 (az (bV (d_ (aw eZ (ah dC (aa (ae 0) aj)))) Bk a9) (az (aV 1 (ah (eB s_) aj)) (az (aV 2 (cC (.int 0))) (az (eL (bz (ae 0)) (gN 3) BN) (aW (ah d8 (aa (ae 2) (aa (ah dE (aa (dn aD (ae 1) de (dR (cUn nD (cC (.int 1))))) aj)) aj))))))))) ds h).bind (cV h):=rfl
 rw[sb]
 simp only[NS] at e
 have ct:=GA (n:=h.length) (lo:=none) (hi:=some (-1)) (h:=h++[.lst ((S++[(n:Int) - 1]).map D.int)]) f_
 rw[m1] at ct
 generalize (szP 0 S n).map D.int=Z at *
 generalize (S++[(n:Int) - 1]).map D.int=LD at *
 generalize S.map D.int=N at *
 simp[bq,zg,z2,e,ct,ex]
end FC
namespace FC
open PySem L2 L2.FE
noncomputable def B0:MS:=(bV (aw asB (ao dEq (bu aD (bz (ae 11)) [8] (aw asB (ao (dIn true) (ae 0) (ae 1))) (ae 0)) (ah (eB aD) aj))) (aV 9 (ao (bQ aD) (ae 9) (ah aB (aa (ae 4) (aa (ae 11) aj))))) a9)
noncomputable def B1:MS:=(eL (bz (ah bK (aa (ae 4) (aa (ae 10) aj)))) (gN 11) B0)
noncomputable def B2:MS:=(az (aV 3 (ah cE (aa (ae 2) aj))) (az (aV 4 (ao (bQ aD) (cC (.int 1)) (ah aI (aa (ae 3) (aa (ao dIx (ah (eB aD) (aa (cC (.int 9)) (aa (cC (.int 12)) aj))) (ah yZ (aa (ao dEq (ae 1) (cC (.int 0))) aj))) aj))))) (az (uF 5 6 (ah d8 (aa (ah dN (aa (ae 3) (aa (ae 4) aj))) (aa (ah aI (aa (ae 3) (aa (ae 4) aj))) aj)))) (az (aV 7 (ah dE (aa (bu aD (eS fC (aa (ao bR (ae 4) (cC (.int 1))) aj)) [5] (aw asB (ao (dIn true) (ae 0) (ae 1))) (ae 0)) aj))) (az (aV 8 (dn aD (ae 5) de (dR (cC (.int 6))))) (az (aV 9 (cC (.int 0))) (az (eL (eS fC (aa (ao (bQ aD) (ah dJ (aa (ae 8) aj)) (cC (.int 1))) aj)) (gN 10) B1) (az (bV (fY (aw asB (ao dNe (ah cD (aa (ae 4) (aa (ae 8) aj))) (ae 9))) (aw asB (ao dNe (ah aB (aa (ae 4) (aa (ae 7) aj))) (ah aB (aa (ae 4) (aa (ae 5) aj)))))) (aW (cC (.bl false))) a9) (az (bV (aw asB (ao dNe (ah gi (aa (bu aD (bz (ah bK (aa (ae 4) (aa (ae 6) aj)))) [4] tt1 (ah aB (aa (ae 1) (aa (ae 0) aj)))) aj)) (ah dP (aa (ae 4) (aa (ae 6) aj))))) (aW (cC (.bl false))) a9) (az (bV (fY (aw asB (ao dNe (ah fT (aa (ah bT (aa (ae 4) (aa (ae 5) aj))) aj)) (ah d8 (aa (ae 4) (aa (ae 5) aj))))) (aw asB (ao dNe (ah gi (aa (ah bT (aa (ae 4) (aa (ae 5) aj))) aj)) (ae 4)))) (aW (cC (.bl false))) a9) (az (aV 12 (ah aB (aa (ae 4) (aa (ae 5) aj)))) (az (aV 13 (ah aI (aa (ae 3) (aa (ae 12) aj)))) (az (aV 14 (bu aD (bz (ah d8 (aa (cC (.int 0)) (aa (ae 13) (aa (ah uu (aa (ao (bQ aD) (ae 13) (cC (.int 1))) (aa (ao bR (ae 12) (cC (.int 1))) aj))) (aa (ao bR (ae 12) (cC (.int 1))) aj)))))) [4,5] tt1 (ah cJ (aa (ae 1) (aa (ae 2) (aa (ae 0) aj)))))) (az (bV (fY (aw asB (ao dNe (ao dIx (ae 14) (cC (.int 0))) (ah cx (aa (ae 4) (aa (ae 5) aj))))) (fY (aw asB (ao dNe (ao dIx (ae 14) (cC (.int 3))) (ah cN (aa (ae 4) (aa (ae 5) aj))))) (aw asB (ao dNe (ae 14) (ah (jm aD) (aa (ae 14) aj)))))) (aW (cC (.bl false))) a9) (az (bV (fY (aw asB (ao dNe (ah cB (aa (ao dIx (ae 14) (cC (.int 1))) aj)) (ae 5))) (aw asB (ao dNe (ah cB (aa (ah cG (aa (ao dIx (ae 14) (cC (.int 1))) aj)) aj)) (ae 7)))) (aW (cC (.bl false))) a9) (az (bV (aw asB (ao dNe (ah cJ (aa (ae 4) (aa (ae 7) (aa (ao bR (ao bR (ae 12) (cC (.int 1))) (ae 13)) aj)))) (ah cG (aa (ao dIx (ae 14) (cC (.int 1))) aj)))) (aW (cC (.bl false))) a9) (az (aV 15 (ao (bQ aD) (cC (.int 1)) (ah aI (aa (ae 3) (aa (cC (.int 8)) aj))))) (az (uF 16 17 (ah dg (aa (ae 15) aj))) (az (bV (aw asB (ao dNe (bu aD (bz (ae 17)) [15,16] (aw asB (ao dNe (ah aB (aa (ae 1) (aa (ae 0) aj))) (ae 2))) (ae 0)) (ah (eB aD) aj))) (aW (cC (.bl false))) a9) (bV (aw asB (ao dGt (ah iZ (aa (bu aD (bz (ah bK (aa (ae 15) (aa (ao qk (ae 15) (cC (.int 2))) aj)))) [15] tt1 (ah aB (aa (ae 1) (aa (ae 0) aj)))) aj)) (ae 16))) (aW (cC (.bl false))) a9))))))))))))))))))))
theorem zS:nz=fun ds h=>((b9 18 (az (eL (qp (ao (bQ aD) (ah (eB aD) (aa (ah b8 (aa (ae 0) (aa (cC (.int 0)) aj))) aj)) (dn aD (ae 0) (dR (cC (.int 1))) (dR (cC (.int 2)))))) (gT2 1 2) B2) (aW (cC (.bl true))))) ds h).bind (cV h):=rfl
noncomputable def Bx:Prop:=∀(ns:List Int) (i:Nat) (c:Int) (y3 y4 y5 y6 y7 y8 y9 y10 y11 y12 y13 y14 y15 y16 y17:Option D) (h:Hh),Wf h->Ok (B2 [some (.scr (ns.map D.int)),some (.int i),some (.int c),y3,y4,y5,y6,y7,y8,y9,y10,y11,y12,y13,y14,y15,y16,y17] h) fun fl h2=>∃z3 z4 z5 z6 z7 z8 z9 z10 z11 z12 z13 z14 z15 z16 z17,fl=.nx [some (.scr (ns.map D.int)),some (.int i),some (.int c),z3,z4,z5,z6,z7,z8,z9,z10,z11,z12,z13,z14,z15,z16,z17]/\Wf h2
theorem GC (step:Bx) (ns:List Int) (hl:ns.length<=63):∃h,nz [.scr (ns.map D.int)] []=.ok (.bl true) h:=by
 have key:Ok (eJ (gT2 1 2) B2 (gC (((ns.headD 0)::iW ns (some 1) (some 2)).map D.int)) [some (.scr (ns.map D.int)),none,none,none,none,none,none,none,none,none,none,none,none,none,none,none,none,none] []) fun fl h2=>(∃e,fl=.nx e)/\Wf h2:=by
  rw[yc]
  refine qJ (fun(i:Nat)=>D.tup [.int i,.int (gI ((ns.headD 0)::iW ns (some 1) (some 2)) i)]) (fun e h=>(∃y1 y2 y3 y4 y5 y6 y7 y8 y9 y10 y11 y12 y13 y14 y15 y16 y17,e=[some (.scr (ns.map D.int)),y1,y2,y3,y4,y5,y6,y7,y8,y9,y10,y11,y12,y13,y14,y15,y16,y17])/\Wf h) _ _ _ ⟨⟨_,_,_,_,_,_,_,_,_,_,_,_,_,_,_,_,_,rfl⟩,Wf.nil⟩ (fun x e h _ ⟨⟨y1,y2,y3,y4,y5,y6,y7,y8,y9,y10,y11,y12,y13,y14,y15,y16,y17,e1⟩,w⟩=>?_) (fun e h ⟨_,w⟩=>⟨⟨_,rfl⟩,w⟩)
  subst e1
  simp only[H_,cu,Ro]
  refine(step ns x _ y3 y4 y5 y6 y7 y8 y9 y10 y11 y12 y13 y14 y15 y16 y17 h w).mono fun fl h2 ⟨z3,z4,z5,z6,z7,z8,z9,z10,z11,z12,z13,z14,z15,z16,z17,e2,w2⟩=>?_
  subst e2
  exact⟨⟨_,_,_,_,_,_,_,_,_,_,_,_,_,_,_,_,_,rfl⟩,w2⟩
 obtain⟨fl,h2,e,⟨e',rfl⟩,w⟩:=key
 have cl:=C7 ns (some 1) (some 2)
 have c1:1+(iW ns (some 1) (some 2)).length<=1000000:=by lia
 have ex:cV [] (.bl true) h2=.ok (.bl true) []:=by
  have:=fH (h:=[]) (t:=h2) (d:=.bl true) Wf.nil rfl
  simpa using this
 refine⟨[],?_⟩
 have e2:eJ (gT2 1 2) B2 (gC (D.int (ns.headD 0)::(iW ns (some 1) (some 2)).map D.int)) [some (.scr (ns.map D.int)),none,none,none,none,none,none,none,none,none,none,none,none,none,none,none,none,none] []=.ok (.nx e') h2:=e
 rw[zS]
 simp[bq,kL,c1,e2,ex,-List.headD_eq_head?_getD]
noncomputable def S1:MS:=(aV 3 (ah cE (aa (ae 2) aj)))
noncomputable def S2:MS:=(aV 4 (ao (bQ aD) (cC (.int 1)) (ah aI (aa (ae 3) (aa (ao dIx (ah (eB aD) (aa (cC (.int 9)) (aa (cC (.int 12)) aj))) (ah yZ (aa (ao dEq (ae 1) (cC (.int 0))) aj))) aj)))))
noncomputable def S3:MS:=(uF 5 6 (ah d8 (aa (ah dN (aa (ae 3) (aa (ae 4) aj))) (aa (ah aI (aa (ae 3) (aa (ae 4) aj))) aj))))
noncomputable def S4:MS:=(aV 7 (ah dE (aa (bu aD (eS fC (aa (ao bR (ae 4) (cC (.int 1))) aj)) [5] (aw asB (ao (dIn true) (ae 0) (ae 1))) (ae 0)) aj)))
noncomputable def S5:MS:=(aV 8 (dn aD (ae 5) de (dR (cC (.int 6)))))
noncomputable def S6:MS:=(aV 9 (cC (.int 0)))
noncomputable def S7:MS:=(eL (eS fC (aa (ao (bQ aD) (ah dJ (aa (ae 8) aj)) (cC (.int 1))) aj)) (gN 10) B1)
noncomputable def S8:MS:=(bV (fY (aw asB (ao dNe (ah cD (aa (ae 4) (aa (ae 8) aj))) (ae 9))) (aw asB (ao dNe (ah aB (aa (ae 4) (aa (ae 7) aj))) (ah aB (aa (ae 4) (aa (ae 5) aj)))))) (aW (cC (.bl false))) a9)
noncomputable def S9:MS:=(bV (aw asB (ao dNe (ah gi (aa (bu aD (bz (ah bK (aa (ae 4) (aa (ae 6) aj)))) [4] tt1 (ah aB (aa (ae 1) (aa (ae 0) aj)))) aj)) (ah dP (aa (ae 4) (aa (ae 6) aj))))) (aW (cC (.bl false))) a9)
noncomputable def S10:MS:=(bV (fY (aw asB (ao dNe (ah fT (aa (ah bT (aa (ae 4) (aa (ae 5) aj))) aj)) (ah d8 (aa (ae 4) (aa (ae 5) aj))))) (aw asB (ao dNe (ah gi (aa (ah bT (aa (ae 4) (aa (ae 5) aj))) aj)) (ae 4)))) (aW (cC (.bl false))) a9)
noncomputable def S11:MS:=(aV 12 (ah aB (aa (ae 4) (aa (ae 5) aj))))
noncomputable def S12:MS:=(aV 13 (ah aI (aa (ae 3) (aa (ae 12) aj))))
noncomputable def S13:MS:=(aV 14 (bu aD (bz (ah d8 (aa (cC (.int 0)) (aa (ae 13) (aa (ah uu (aa (ao (bQ aD) (ae 13) (cC (.int 1))) (aa (ao bR (ae 12) (cC (.int 1))) aj))) (aa (ao bR (ae 12) (cC (.int 1))) aj)))))) [4,5] tt1 (ah cJ (aa (ae 1) (aa (ae 2) (aa (ae 0) aj))))))
noncomputable def S14:MS:=(bV (fY (aw asB (ao dNe (ao dIx (ae 14) (cC (.int 0))) (ah cx (aa (ae 4) (aa (ae 5) aj))))) (fY (aw asB (ao dNe (ao dIx (ae 14) (cC (.int 3))) (ah cN (aa (ae 4) (aa (ae 5) aj))))) (aw asB (ao dNe (ae 14) (ah (jm aD) (aa (ae 14) aj)))))) (aW (cC (.bl false))) a9)
noncomputable def S15:MS:=(bV (fY (aw asB (ao dNe (ah cB (aa (ao dIx (ae 14) (cC (.int 1))) aj)) (ae 5))) (aw asB (ao dNe (ah cB (aa (ah cG (aa (ao dIx (ae 14) (cC (.int 1))) aj)) aj)) (ae 7)))) (aW (cC (.bl false))) a9)
noncomputable def S16:MS:=(bV (aw asB (ao dNe (ah cJ (aa (ae 4) (aa (ae 7) (aa (ao bR (ao bR (ae 12) (cC (.int 1))) (ae 13)) aj)))) (ah cG (aa (ao dIx (ae 14) (cC (.int 1))) aj)))) (aW (cC (.bl false))) a9)
noncomputable def S17:MS:=(aV 15 (ao (bQ aD) (cC (.int 1)) (ah aI (aa (ae 3) (aa (cC (.int 8)) aj)))))
noncomputable def S18:MS:=(uF 16 17 (ah dg (aa (ae 15) aj)))
noncomputable def S19:MS:=(bV (aw asB (ao dNe (bu aD (bz (ae 17)) [15,16] (aw asB (ao dNe (ah aB (aa (ae 1) (aa (ae 0) aj))) (ae 2))) (ae 0)) (ah (eB aD) aj))) (aW (cC (.bl false))) a9)
noncomputable def S20:MS:=(bV (aw asB (ao dGt (ah iZ (aa (bu aD (bz (ah bK (aa (ae 15) (aa (ao qk (ae 15) (cC (.int 2))) aj)))) [15] tt1 (ah aB (aa (ae 1) (aa (ae 0) aj)))) aj)) (ae 16))) (aW (cC (.bl false))) a9)
theorem Jg:B2=az S1 (az S2 (az S3 (az S4 (az S5 (az S6 (az S7 (az S8 (az S9 (az S10 (az S11 (az S12 (az S13 (az S14 (az S15 (az S16 (az S17 (az S18 (az S19 (S20))))))))))))))))))):=rfl
end FC
namespace FC
open PySem L2 L2.FE L2.Srt
noncomputable abbrev sT (n:Nat) (fl:Nat->Bool):D:=.tup ((aA n fl).map D.int)
noncomputable def ng (fl:Nat->Bool):Nat->Bool:=fun i=>!fl i
theorem wo (k:Nat) (h:Hh):∀L:List (List Int),eqL (eqD (k+2) h) (L.map tpI) (L.map tpI)=some true
 | []=>rfl
 | x::L=>by
  have e1:eqD (k+2) h (tpI x) (tpI x)=some true:=by
   show eqL (eqD (k+1) h) (x.map D.int) (x.map D.int)=some true
   rw[fE];simp
  simp only[LW,eqL,e1,wo k h L];rfl
theorem Kb {L:List (List Int)}{h:Hh}:dNe (.frl (L.map tpI)) (.frl (L.map tpI)) h=.ok (.bl false) h:=by
 have:eqD eqN h (.frl (L.map tpI)) (.frl (L.map tpI))=some true:=by
  show(if (L.map tpI).length=(L.map tpI).length then eqL (eqD 11 h) (L.map tpI) (L.map tpI) else some false)=_
  rw[if_pos rfl,wo]
 simp only[dNe,this];rfl
theorem A9 {S:List Int}{h:Hh}:dNe (.tup (S.map D.int)) (.tup (S.map D.int)) h=.ok (.bl false) h:=by
 have:eqD eqN h (.tup (S.map D.int)) (.tup (S.map D.int))=some true:=by
  show eqL (eqD 11 h) (S.map D.int) (S.map D.int)=_
  rw[fE];simp
 simp only[dNe,this];rfl
theorem neP {a:Int}{S:List Int}{h:Hh}:dNe (.tup [.int a,.tup (S.map D.int)]) (.tup [.int a,.tup (S.map D.int)]) h=.ok (.bl false) h:=by
 have:eqD eqN h (.tup [.int a,.tup (S.map D.int)]) (.tup [.int a,.tup (S.map D.int)])=some true:=by
  show eqL (eqD 11 h) [.int a,.tup (S.map D.int)] [.int a,.tup (S.map D.int)]=_
  have e:eqD 11 h (.tup (S.map D.int)) (.tup (S.map D.int))=some true:=by
   show eqL (eqD 10 h) (S.map D.int) (S.map D.int)=_
   rw[fE];simp
  have e2:eqD 11 h (.int a) (.int a)=some true:=by show some (eqF (.int a) (.int a))=_;simp[eqF]
  simp only[eqL,e,e2];rfl
 simp only[dNe,this];rfl
theorem K3 {L:List Int}{h:Hh}:dEq (.frl (L.map D.int)) (.frl []) h=.ok (.bl L.isEmpty) h:=by
 cases L with
 | nil=>rfl
 | cons x L=>rfl
section
variable {d0 d1 d2 y3 y4 y5 y6 y7 y8 y9 y10 y11 y12 y13 y14 y15 y16 y17:Option D}{c:Int}{p:Pen}{h:Hh}{n k:Nat}{fl:Nat->Bool}
theorem Io:S1 [d0,d1,some (.int c),y3,y4,y5,y6,y7,y8,y9,y10,y11,y12,y13,y14,y15,y16,y17] h=.ok (.nx [d0,d1,some (.int c),some (.ref h.length),y4,y5,y6,y7,y8,y9,y10,y11,y12,y13,y14,y15,y16,y17]) (h++[.lst (gO (wZ c))]):=by simp[S1]
theorem HK (i:Nat):∃(n:Nat) (p':Pen),(1<=n/\n<=12)/\S2 [d0,some (.int i),d2,some (.ref h.length),y4,y5,y6,y7,y8,y9,y10,y11,y12,y13,y14,y15,y16,y17] (h++[.lst (gO p)])=.ok (.nx [d0,some (.int i),d2,some (.ref h.length),some (.int n),y5,y6,y7,y8,y9,y10,y11,y12,y13,y14,y15,y16,y17]) (h++[.lst (gO p')]):=by
 have i0:∀H:Hh,ixK [D.int 9,.int 12] 0 H=.ok (.int 9) H:=fun _=>rfl
 have i1:∀H:Hh,ixK [D.int 9,.int 12] 1 H=.ok (.int 12) H:=fun _=>rfl
 by_cases c:i=0
 ·subst c
  obtain⟨n,e,a,b⟩:=ku p (m:=12) (by decide)
  have e:1+eF p 12=n:=e
  have d:=gY (p:=p) (h:=h) (t:=[]) (m:=12) (by decide)
  exact⟨n,h_ p 12,⟨a,b⟩,by simp[S2,i1,d,e]⟩
 ·obtain⟨n,e,a,b⟩:=ku p (m:=9) (by decide)
  have e:1+eF p 9=n:=e
  have d:=gY (p:=p) (h:=h) (t:=[]) (m:=9) (by decide)
  have c:((i:Int) == 0)=false:=by simp;lia
  exact⟨n,h_ p 9,⟨a,by lia⟩,by simp[S2,i0,c,d,e]⟩
theorem Iu (h1:1<=n) (hn:n<=12):∃(fl:Nat->Bool) (k:Nat) (p':Pen),k<n/\S3 [d0,d1,d2,some (.ref h.length),some (.int n),y5,y6,y7,y8,y9,y10,y11,y12,y13,y14,y15,y16,y17] (h++[.lst (gO p)])=.ok (.nx [d0,d1,d2,some (.ref h.length),some (.int n),some (sT n fl),some (.int k),y7,y8,y9,y10,y11,y12,y13,y14,y15,y16,y17]) (h++[.lst (gO p')]):=by
 obtain⟨T,p1,s,e⟩:=FR (n:=n) (p:=p) (h:=h) (t:=[]) h1 hn
 obtain⟨k,ek,hk⟩:=se p1 (m:=n) (by lia)
 have d:=gY (p:=p1) (h:=h) (t:=[]) (m:=(n:Int)) ⟨by lia,by lia⟩
 rw[ek] at d
 refine⟨mb T,k,h_ p1 n,hk,?_⟩
 unfold sT
 rw[qK s]
 simp[S3,e,d]
theorem Im (h1:1<=n) (hn:n<=12):S4 [d0,d1,d2,y3,some (.int n),some (sT n fl),y6,y7,y8,y9,y10,y11,y12,y13,y14,y15,y16,y17] h=.ok (.nx [d0,d1,d2,y3,some (.int n),some (sT n fl),y6,some (sT n (ng fl)),y8,y9,y10,y11,y12,y13,y14,y15,y16,y17]) h:=by
 have q:bX (aw asB (ao (dIn true) (ae 0) (ae 1))) (ae 0) (fun d=>[some d,some (sT n fl)]) (bC 0 (n - 1)) h=.ok ((aA n (ng fl)).map D.int) h:=by
  rw[r8 (fun i=>!fl i) (fun i=>D.int i) (fun i hi=>⟨by
   have:=nE (n:=n) (fl:=fl) (p:=i) (by lia)
   simp[sT,this],fun _=>by simp⟩)]
  unfold aA
  rw[Mf];rfl
 have z1:((n:Int) - 1).natAbs<=1000000:=by lia
 have z2:((n:Int) - 1).toNat=n - 1:=by lia
 have z3:n - 1<=1000000:=by lia
 simp[S4,z1,z2,z3,q]
theorem Hf:S5 [d0,d1,d2,y3,y4,some (sT n fl),y6,y7,y8,y9,y10,y11,y12,y13,y14,y15,y16,y17] h=.ok (.nx [d0,d1,d2,y3,y4,some (sT n fl),y6,y7,some (.tup (((aA n fl).take 6).map D.int)),y9,y10,y11,y12,y13,y14,y15,y16,y17]) h:=by
 have e:cutD ((aA n fl).map D.int) none (some 6)=((aA n fl).take 6).map D.int:=by
  rw[kL];exact congrArg _ (wc _ 6)
 simp[S5,e]
theorem GU:S6 [d0,d1,d2,y3,y4,y5,y6,y7,y8,y9,y10,y11,y12,y13,y14,y15,y16,y17] h=.ok (.nx [d0,d1,d2,y3,y4,y5,y6,y7,y8,some (.int 0),y10,y11,y12,y13,y14,y15,y16,y17]) h:=by simp[S6]
theorem Il {F s:List Int}{a:Int} (h1:1<=n) (hn:n<=12) (hs:Sub (n - 1) s):B0 [d0,d1,d2,y3,some (.int n),y5,y6,y7,some (.tup (F.map D.int)),some (.int a),y10,some (tpI s),y12,y13,y14,y15,y16,y17] h=.ok (.nx [d0,d1,d2,y3,some (.int n),y5,y6,y7,some (.tup (F.map D.int)),some (.int (a+if inF F s=true then JV n s else 0)),y10,some (tpI s),y12,y13,y14,y15,y16,y17]) h:=by
 have q:bX (aw asB (ao (dIn true) (ae 0) (ae 1))) (ae 0) (fun d=>[some d,some (.tup (F.map D.int))]) (s.map D.int) h=.ok ((s.filter fun x=>!(F.any (· == x))).map D.int) h:=comp_map D.int (fun x=>!(F.any (· == x))) D.int s fun x _=>⟨by simp,fun _=>by simp⟩
 have f0:=K3 (L:=s.filter fun x=>!(F.any (· == x))) (h:=h)
 have ie:(s.filter fun x=>!(F.any (· == x))).isEmpty=inF F s:=by
  rw[M3,List.isEmpty_iff,Nc]
  unfold inF
  rw[L4]
  exact forall_congr' fun x=>imp_congr_right fun _=>by cases F.any (· == x)<;>simp
 have xj:=m9 (n:=n) (h:=h) h1 hn hs
 rw[ie] at f0
 have z:(s.map D.int).length<=1000000:=by rw[LQ];have:=hs.len;lia
 unfold tpI
 generalize (s.filter fun x=>!(F.any (· == x))).map D.int=W at *
 generalize F.map D.int=FD at *
 generalize s.map D.int=SD at *
 by_cases c:inF F s=true
 ·rw[c] at f0
  simp[B0,z,q,f0,c,xj]
 ·rw[Bool.not_eq_true] at c
  rw[c] at f0
  simp[B0,z,q,f0,c]
end
theorem w8 {n:Nat}{F:List Int}:∀(L:List (List Int)) (a:Int) (y:Option D),(L.foldl (fun(st:Int × Option D) s=>(st.1+if inF F s=true then JV n s else 0,some (tpI s))) (a,y)).1=a+((L.filter (inF F)).map (JV n)).sum
 | [],a,y=>by simp
 | s::L,a,y=>by
  rw[Oz,w8 L,L_]
  by_cases c:inF F s=true<;>simp[c,Int.add_assoc]
section
variable {d0 d1 d2 y3 y4 y5 y6 y7 y8 y9 y10 y11 y12 y13 y14 y15 y16 y17:Option D}{c:Int}{p:Pen}{h:Hh}{n k:Nat}{fl:Nat->Bool}
theorem HQ {F:List Int}{a:Int} (w:Wf h) (h1:1<=n) (hn:n<=12) (hk:k<=12):∃z11,B1 [d0,d1,d2,y3,some (.int n),y5,y6,y7,some (.tup (F.map D.int)),some (.int a),some (.int k),y11,y12,y13,y14,y15,y16,y17] h=.ok (.nx [d0,d1,d2,y3,some (.int n),y5,y6,y7,some (.tup (F.map D.int)),some (.int (a+(((SO n k).filter (inF F)).map (JV n)).sum)),some (.int k),z11,y12,y13,y14,y15,y16,y17]) h:=by
 have xm:=lM (n:=n) (k:=k) w h1 hn hk
 obtain⟨q,_⟩:=gy (tg:=gN 11) (body:=B0) (fun(st:Int × Option D)=>[d0,d1,d2,y3,some (.int n),y5,y6,y7,some (.tup (F.map D.int)),some (.int st.1),some (.int k),st.2,y12,y13,y14,y15,y16,y17]) (fun _=>h) tpI (fun st s=>(st.1+if inF F s=true then JV n s else 0,some (tpI s))) (fun r _=>∀s∈r,Sub (n - 1) s) (fun st s r hr=>⟨fun y hy=>hr y (td _ hy),.inl (by
   simp only[EJ,cu,Ro]
   exact Il h1 hn (hr s LL))⟩) (SO n k) (a,y11) (fun s hs=>qW hs)
 rw[w8] at q
 have l:((SO n k).map tpI).length<=1000000:=by rw[LQ];have:=sY (n:=n) (k:=k) hn;lia
 generalize ((SO n k).foldl (fun(st:Int × Option D) s=>(st.1+if inF F s=true then JV n s else 0,some (tpI s))) (a,y11)).2=z11 at q
 refine⟨z11,?_⟩
 dsimp only at q
 generalize (SO n k).map tpI=S at *
 simp[B1,xm,l,q]
theorem I_ (w:Wf h) (h1:1<=n) (hn:n<=12):∃z10 z11,S7 [d0,d1,d2,y3,some (.int n),y5,y6,y7,some (.tup (((aA n fl).take 6).map D.int)),some (.int 0),y10,y11,y12,y13,y14,y15,y16,y17] h=.ok (.nx [d0,d1,d2,y3,some (.int n),y5,y6,y7,some (.tup (((aA n fl).take 6).map D.int)),some (.int (i5 n ((aA n fl).take 6))),z10,z11,y12,y13,y14,y15,y16,y17]) h:=by
 have sF:Sub (n - 1) ((aA n fl).take 6):=(fP n fl).sub (O9 _ _)
 have l6:((aA n fl).take 6).length<=6:=List.length_take_le _ _
 have wi:=yN h1 hn sF
 generalize (aA n fl).take 6=F at *
 obtain⟨⟨a,z10,z11⟩,e,i⟩:=lL (tg:=gN 10) (body:=B1) (fun(i:Nat)=>D.int i) (F.length+1) (fun(st:Int × Option D × Option D)=>[d0,d1,d2,y3,some (.int n),y5,y6,y7,some (.tup (F.map D.int)),some (.int st.1),st.2.1,st.2.2,y12,y13,y14,y15,y16,y17]) (fun _=>h) (fun i st=>st.1=((LK i).map fun k=>(((SO n k).filter (inF F)).map (JV n)).sum).sum) (fun i st hi hI=>by
   obtain⟨z,e⟩:=HQ (F:=F) (a:=st.1) (k:=i) (d0:=d0) (d1:=d1) (d2:=d2) (y3:=y3) (y5:=y5) (y6:=y6) (y7:=y7) (y11:=st.2.2) (y12:=y12) (y13:=y13) (y14:=y14) (y15:=y15) (y16:=y16) (y17:=y17) w h1 hn (by lia)
   refine⟨(st.1+(((SO n i).filter (inF F)).map (JV n)).sum,some (.int i),z),?_,?_⟩
   ·rw[Od,Oc,OY,<- hI];simp
   ·simp only[EJ,cu,Ro]
    exact e) (F.length+1) 0 (0,y10,y11) (by lia) rfl
 refine⟨z10,z11,?_⟩
 dsimp only at i
 rw[i,wi,<- GJ] at e
 have z1:((F.length:Int)+1).natAbs<=1000000:=by lia
 have z2:((F.length:Int)+1).toNat=F.length+1:=by lia
 have z3:F.length+1<=1000000:=by lia
 have fl':(F.map D.int).length=F.length:=by simp
 generalize F.map D.int=FD at *
 simp[S7,fl',z1,z2,z3,e]
theorem Jh (h1:1<=n) (hn:n<=12):S8 [d0,d1,d2,y3,some (.int n),some (sT n fl),y6,some (sT n (ng fl)),some (.tup (((aA n fl).take 6).map D.int)),some (.int (i5 n ((aA n fl).take 6))),y10,y11,y12,y13,y14,y15,y16,y17] h=.ok (.nx [d0,d1,d2,y3,some (.int n),some (sT n fl),y6,some (sT n (ng fl)),some (.tup (((aA n fl).take 6).map D.int)),some (.int (i5 n ((aA n fl).take 6))),y10,y11,y12,y13,y14,y15,y16,y17]) h:=by
 have sF:Sub (n - 1) ((aA n fl).take 6):=(fP n fl).sub (O9 _ _)
 have a:=yA (h:=h) h1 hn sF
 have b:=lQ (fl:=fl) (h:=h) h1 hn
 have b2:=lQ (fl:=ng fl) (h:=h) h1 hn
 have:jcV n (ng fl) []=jcV n fl []:=w_ h1
 rw[this] at b2
 generalize ((aA n fl).take 6).map D.int=FD at *
 unfold sT
 generalize (aA n fl).map D.int=X at *
 generalize (aA n (ng fl)).map D.int=Y at *
 simp[S8,a,b,b2]
theorem IJ (w:Wf h) (h1:1<=n) (hn:n<=12) (hk:k<n):S9 [d0,d1,d2,y3,some (.int n),y5,some (.int k),y7,y8,y9,y10,y11,y12,y13,y14,y15,y16,y17] h=.ok (.nx [d0,d1,d2,y3,some (.int n),y5,some (.int k),y7,y8,y9,y10,y11,y12,y13,y14,y15,y16,y17]) h:=by
 have xm:=lM (n:=n) (k:=k) w h1 hn (by lia)
 have q:bX tt1 (ah aB (aa (ae 1) (aa (ae 0) aj))) (fun d=>[some d,some (.int n)]) ((SO n k).map tpI) h=.ok (((SO n k).map (JV n)).map D.int) h:=by
  rw[fN tpI (fun s=>D.int (JV n s)) (SO n k) (fun s hs=>by
   have xj:=m9 (n:=n) (h:=h) h1 hn (qW hs)
   unfold tpI
   simp[xj]),Mf]
  rfl
 have xc:=Cs (h:=h) h1 hn (k:=k) (by lia)
 have o:=Dd h1 hn hk
 have l:((SO n k).map tpI).length<=1000000:=by rw[LQ];have:=sY (n:=n) (k:=k) hn;lia
 have sm:gi [.frl (((SO n k).map (JV n)).map D.int)] h=.ok (.int (zP n k)) h:=by rw[Gp,o]
 generalize ((SO n k).map (JV n)).map D.int=J at *
 generalize (SO n k).map tpI=X at *
 simp[S9,xm,l,q,sm,xc]
theorem ER (w:Wf h) (h1:1<=n) (hn:n<=12):S10 [d0,d1,d2,y3,some (.int n),some (sT n fl),y6,y7,y8,y9,y10,y11,y12,y13,y14,y15,y16,y17] h=.ok (.nx [d0,d1,d2,y3,some (.int n),some (sT n fl),y6,y7,y8,y9,y10,y11,y12,y13,y14,y15,y16,y17]) h:=by
 have s:=fP n fl
 have a:=wL (h:=h) h1 hn s
 have b:=Dh w h1 hn s
 have e:=neP (a:=(n:Int)) (S:=aA n fl) (h:=h)
 have sm:gi [.tup ((szP 0 (aA n fl) n).map D.int)] h=.ok (.int n) h:=by rw[Fn,lN,Int.sub_zero]
 unfold sT
 generalize (szP 0 (aA n fl) n).map D.int=Z at *
 generalize (aA n fl).map D.int=X at *
 simp[S10,a,b,e,sm]
theorem Fh (h1:1<=n) (hn:n<=12):S11 [d0,d1,d2,y3,some (.int n),some (sT n fl),y6,y7,y8,y9,y10,y11,y12,y13,y14,y15,y16,y17] h=.ok (.nx [d0,d1,d2,y3,some (.int n),some (sT n fl),y6,y7,y8,y9,y10,y11,some (.int (jcV n fl [])),y13,y14,y15,y16,y17]) h:=by
 have b:=lQ (fl:=fl) (h:=h) h1 hn
 unfold sT
 generalize (aA n fl).map D.int=X at *
 simp[S11,b]
theorem FV (h1:1<=n) (hn:n<=12):∃(t:Nat) (p':Pen),(t:Int)<jcV n fl []/\S12 [d0,d1,d2,some (.ref h.length),y4,y5,y6,y7,y8,y9,y10,y11,some (.int (jcV n fl [])),y13,y14,y15,y16,y17] (h++[.lst (gO p)])=.ok (.nx [d0,d1,d2,some (.ref h.length),y4,y5,y6,y7,y8,y9,y10,y11,some (.int (jcV n fl [])),some (.int t),y14,y15,y16,y17]) (h++[.lst (gO p')]):=by
 have h0:=Ew (fl:=fl) h1
 have jl:=HH (n:=n) (fl:=fl) (xs:=[]) h1 (by lia)
 obtain⟨t,et,bt⟩:=DX p (jcV n fl []) h0
 have d:=gY (p:=p) (h:=h) (t:=[]) (m:=jcV n fl []) ⟨h0,jl⟩
 rw[et] at d
 refine⟨t,h_ p (jcV n fl []),bt,?_⟩
 generalize jcV n fl []=V at *
 simp[S12,d]
end
noncomputable def X4 (n:Nat) (fl:Nat->Bool) (t:Int):List Int:=(grd n (jcV n fl) n [] t).1
noncomputable abbrev FL (n:Nat) (fl:Nat->Bool) (t:Int):List (List Int):=[X4 n fl 0,X4 n fl t,X4 n fl (min (t+1) (jcV n fl [] - 1)),X4 n fl (jcV n fl [] - 1)]
noncomputable abbrev FO (n:Nat) (fl:Nat->Bool) (t:Int):D:=.frl ((FL n fl t).map tpI)
theorem zW {n:Nat}{fl:Nat->Bool}{t:Int} (h1:1<=n) (h0:0<=t) (ht:t<jcV n fl []):Ord n (X4 n fl t)/\cM (X4 n fl t)=aA n fl/\cM (bD n (X4 n fl t))=aA n (ng fl)/\(grd n (jcV n (ng fl)) n [] (jcV n fl [] - 1 - t)).1=bD n (X4 n fl t):=Et h1 h0 ht rfl
theorem HD {n:Nat}{fl:Nat->Bool}{t:Int} (h1:1<=n) (hn:n<=12) (h0:0<=t) (ht:t<jcV n fl []):okR (FL n fl t)=true:=by
 have m0:0<=min (t+1) (jcV n fl [] - 1):=by lia
 have m1:min (t+1) (jcV n fl [] - 1)<jcV n fl []:=by lia
 have m2:t<=min (t+1) (jcV n fl [] - 1):=by lia
 have m3:min (t+1) (jcV n fl [] - 1)<=jcV n fl [] - 1:=by lia
 have U:∀{u v:Int},0<=u->u<=v->v<jcV n fl []->kT 20 (X4 n fl u)<=kT 20 (X4 n fl v):=fun a b c=>Ga h1 hn a b c
 have O:∀{u:Int},0<=u->u<jcV n fl []->(!(X4 n fl u).isEmpty&&decide ((X4 n fl u).length<=20)&&(X4 n fl u).all fun x=>decide (0<=x/\x<=98))=true:=fun{u} a b=>by
  have o:=(zW (fl:=fl) h1 a b).1
  have l:=o.len
  simp only[MC,decide_eq_true_eq,L4]
  refine⟨⟨?_,by lia⟩,fun x hx=>by have:=o.lo x hx;have:=o.hi x hx;lia⟩
  cases hX:X4 n fl u with
  | nil=>rw[hX] at l;simp at l;lia
  | cons _ _=>rfl
 unfold okR
 simp only[MC,decide_eq_true_eq]
 refine⟨⟨by simp,?_⟩,?_⟩
 ·simp only[NP,QR,O (NV 0) (by lia),O h0 ht,O m0 m1,O (show 0<=jcV n fl [] - 1 by lia) (by lia)];rfl
 ·simp only[LW,NS,L6,LR,M6,or_false,forall_eq_or_imp,forall_eq]
  exact⟨⟨U (NV 0) h0 ht,U (NV 0) m0 m1,U (NV 0) (by lia) (by lia)⟩,⟨U h0 m2 m1,U h0 (by lia) (by lia)⟩,U m0 m3 (by lia),by simp⟩
section
variable {d0 d1 d2 y3 y4 y5 y6 y7 y8 y9 y10 y11 y12 y13 y14 y15 y16 y17:Option D}{c:Int}{p:Pen}{h:Hh}{n k m:Nat}{t:Int}{fl:Nat->Bool}
theorem Gd (h1:1<=n) (hn:n<=12) (h0:0<=t) (ht:t<jcV n fl []):S13 [d0,d1,d2,y3,some (.int n),some (sT n fl),y6,y7,y8,y9,y10,y11,some (.int (jcV n fl [])),some (.int t),y14,y15,y16,y17] h=.ok (.nx [d0,d1,d2,y3,some (.int n),some (sT n fl),y6,y7,y8,y9,y10,y11,some (.int (jcV n fl [])),some (.int t),some (FO n fl t),y15,y16,y17]) h:=by
 have q:bX tt1 (ah cJ (aa (ae 1) (aa (ae 2) (aa (ae 0) aj)))) (fun d=>[some d,some (.int n),some (sT n fl)]) ([0,t,min (t+1) (jcV n fl [] - 1),jcV n fl [] - 1].map D.int) h=.ok ([0,t,min (t+1) (jcV n fl [] - 1),jcV n fl [] - 1].map fun u=>tpI (X4 n fl u)) h:=fN D.int (fun u=>tpI (X4 n fl u)) _ (fun u hu=>by
  have hu:0<=u/\u<jcV n fl []:=by
   simp only[LR,M6,or_false] at hu
   lia
  have e:=D7 (fl:=fl) (h:=h) h1 hn hu.1 hu.2
  unfold X4 tpI sT
  generalize (grd n (jcV n fl) n [] u).1.map D.int=Y at *
  generalize (aA n fl).map D.int=S at *
  simp[e])
 simp only[LW,NS] at q
 unfold FO FL
 simp only[LW,NS]
 unfold sT at *
 generalize (aA n fl).map D.int=S at *
 generalize X4 n fl=G at *
 generalize jcV n fl []=V at *
 simp[S13,q]
theorem FN (h1:1<=n) (hn:n<=12) (h0:0<=t) (ht:t<jcV n fl []):S14 [d0,d1,d2,y3,some (.int n),some (sT n fl),y6,y7,y8,y9,y10,y11,y12,y13,some (FO n fl t),y15,y16,y17] h=.ok (.nx [d0,d1,d2,y3,some (.int n),some (sT n fl),y6,y7,y8,y9,y10,y11,y12,y13,some (FO n fl t),y15,y16,y17]) h:=by
 have a:=JK (fl:=fl) (h:=h) h1 hn (by lia)
 have b:=JY (fl:=fl) (h:=h) h1 hn (by lia)
 have a:cx [.int n,sT n fl] h=.ok (tpI (X4 n fl 0)) h:=a
 have b:cN [.int n,sT n fl] h=.ok (tpI (X4 n fl (jcV n fl [] - 1))) h:=b
 have so:jm aD [FO n fl t] h=.ok (FO n fl t) h:=by
  have l:gm (FO n fl t) h=some ((FL n fl t).map uj):=rfl
  delta jm;dsimp only
  rw[l]
  dsimp only
  rw[i7]
  dsimp only
  rw[if_pos (HD h1 hn h0 ht)];rfl
 have ne:=Kb (L:=FL n fl t) (h:=h)
 have n0:=A9 (S:=X4 n fl 0) (h:=h)
 have n3:=A9 (S:=X4 n fl (jcV n fl [] - 1)) (h:=h)
 have ne:dNe (FO n fl t) (FO n fl t) h=.ok (.bl false) h:=ne
 have i0:dIx (FO n fl t) (.int 0) h=.ok (tpI (X4 n fl 0)) h:=rfl
 have i3:dIx (FO n fl t) (.int 3) h=.ok (tpI (X4 n fl (jcV n fl [] - 1))) h:=rfl
 have n0:dNe (tpI (X4 n fl 0)) (tpI (X4 n fl 0)) h=.ok (.bl false) h:=n0
 have n3:dNe (tpI (X4 n fl (jcV n fl [] - 1))) (tpI (X4 n fl (jcV n fl [] - 1))) h=.ok (.bl false) h:=n3
 generalize tpI (X4 n fl 0)=T0 at *
 generalize tpI (X4 n fl (jcV n fl [] - 1))=T3 at *
 generalize FO n fl t=Q at *
 generalize sT n fl=S at *
 simp[S14,a,b,so,ne,n0,n3,i0,i3]
theorem Gq (w:Wf h) (h1:1<=n) (hn:n<=12) (h0:0<=t) (ht:t<jcV n fl []):S15 [d0,d1,d2,y3,y4,some (sT n fl),y6,some (sT n (ng fl)),y8,y9,y10,y11,y12,y13,some (FO n fl t),y15,y16,y17] h=.ok (.nx [d0,d1,d2,y3,y4,some (sT n fl),y6,some (sT n (ng fl)),y8,y9,y10,y11,y12,y13,some (FO n fl t),y15,y16,y17]) h:=by
 obtain⟨o,f1,f2,_⟩:=zW h1 h0 ht
 have i1:dIx (FO n fl t) (.int 1) h=.ok (.tup ((X4 n fl t).map D.int)) h:=rfl
 have a:=mL (h:=h) o h1 (by lia) w
 have b:=nh (h:=h) o h1 (by lia) w
 have c:=mL (h:=h) (xf o) h1 (by lia) w
 rw[f1] at a
 rw[f2] at c
 have n1:=A9 (S:=aA n fl) (h:=h)
 have n2:=A9 (S:=aA n (ng fl)) (h:=h)
 generalize FO n fl t=Q at *
 unfold sT
 generalize (aA n fl).map D.int=S at *
 generalize (aA n (ng fl)).map D.int=S' at *
 generalize (bD n (X4 n fl t)).map D.int=Y at *
 generalize (X4 n fl t).map D.int=Z at *
 simp[S15,a,b,c,i1,n1,n2]
theorem FQ (w:Wf h) (h1:1<=n) (hn:n<=12) (h0:0<=t) (ht:t<jcV n fl []):S16 [d0,d1,d2,y3,some (.int n),y5,y6,some (sT n (ng fl)),y8,y9,y10,y11,some (.int (jcV n fl [])),some (.int t),some (FO n fl t),y15,y16,y17] h=.ok (.nx [d0,d1,d2,y3,some (.int n),y5,y6,some (sT n (ng fl)),y8,y9,y10,y11,some (.int (jcV n fl [])),some (.int t),some (FO n fl t),y15,y16,y17]) h:=by
 obtain⟨o,_,_,f3⟩:=zW h1 h0 ht
 have e0:jcV n (ng fl) []=jcV n fl []:=w_ h1
 have i1:dIx (FO n fl t) (.int 1) h=.ok (.tup ((X4 n fl t).map D.int)) h:=rfl
 have b:=nh (h:=h) o h1 (by lia) w
 have a:=D7 (fl:=ng fl) (t:=jcV n fl [] - 1 - t) (h:=h) h1 hn (by lia) (by lia)
 rw[f3] at a
 have ne:=A9 (S:=bD n (X4 n fl t)) (h:=h)
 generalize FO n fl t=Q at *
 unfold sT
 generalize (aA n (ng fl)).map D.int=S' at *
 generalize (bD n (X4 n fl t)).map D.int=Y at *
 generalize (X4 n fl t).map D.int=Z at *
 generalize jcV n fl []=V at *
 simp[S16,a,b,i1,ne]
theorem F6:∃(m:Nat) (p':Pen),(1<=m/\m<=8)/\S17 [d0,d1,d2,some (.ref h.length),y4,y5,y6,y7,y8,y9,y10,y11,y12,y13,y14,y15,y16,y17] (h++[.lst (gO p)])=.ok (.nx [d0,d1,d2,some (.ref h.length),y4,y5,y6,y7,y8,y9,y10,y11,y12,y13,y14,some (.int m),y16,y17]) (h++[.lst (gO p')]):=by
 obtain⟨n,e,a,b⟩:=ku p (m:=8) (by decide)
 have e:1+eF p 8=n:=e
 have d:=gY (p:=p) (h:=h) (t:=[]) (m:=8) (by decide)
 exact⟨n,h_ p 8,⟨a,b⟩,by simp[S17,d,e]⟩
theorem Ft (w:Wf h) (h1:1<=m) (hm:m<=8):S18 [d0,d1,d2,y3,y4,y5,y6,y7,y8,y9,y10,y11,y12,y13,y14,some (.int m),y16,y17] h=.ok (.nx [d0,d1,d2,y3,y4,y5,y6,y7,y8,y9,y10,y11,y12,y13,y14,some (.int m),some (.int (MX m)),some (.tup ((TM m).map tpI))]) h:=by
 have a:=FX w h1 (show m<=10 by lia)
 unfold TD at a
 generalize (TM m).map tpI=T at *
 generalize MX m=M at *
 simp[S18,a]
theorem Eh (h1:1<=m) (hm:m<=8):S19 [d0,d1,d2,y3,y4,y5,y6,y7,y8,y9,y10,y11,y12,y13,y14,some (.int m),some (.int (MX m)),some (.tup ((TM m).map tpI))] h=.ok (.nx [d0,d1,d2,y3,y4,y5,y6,y7,y8,y9,y10,y11,y12,y13,y14,some (.int m),some (.int (MX m)),some (.tup ((TM m).map tpI))]) h:=by
 have q:bX (aw asB (ao dNe (ah aB (aa (ae 1) (aa (ae 0) aj))) (ae 2))) (ae 0) (fun d=>[some d,some (.int m),some (.int (MX m))]) ((TM m).map tpI) h=.ok [] h:=by
  rw[comp_map tpI (fun s=>!(JV m s == MX m)) tpI (TM m) (fun s hs=>⟨by
   have xj:=m9 (n:=m) (h:=h) h1 (by lia) (Bg (Mj.mp hs).1)
   generalize MX m=M at *
   unfold tpI
   simp[xj],fun _=>by simp⟩)]
  rw[Nc.mpr fun s hs=>by rw[(Mj.mp hs).2];decide]
  rfl
 have ll:(LS m).length<=2048:=by unfold LS;rw[mI];exact L0 (NN (by decide) (by lia:m - 1<=11)) (by decide)
 have l:((TM m).map tpI).length<=1000000:=by rw[LQ];have:(TM m).length<=(LS m).length:=NJ _ _;lia
 have ne:dNe (.frl []) (.frl []) h=.ok (.bl false) h:=rfl
 generalize (TM m).map tpI=T at *
 generalize MX m=M at *
 simp[S19,l,q,ne]
theorem C3:∀m,m<9->1<=m->(SO m (m / 2)).length≠0:=by decide +kernel
theorem GH (w:Wf h) (h1:1<=m) (hm:m<=8):S20 [d0,d1,d2,y3,y4,y5,y6,y7,y8,y9,y10,y11,y12,y13,y14,some (.int m),some (.int (MX m)),y17] h=.ok (.nx [d0,d1,d2,y3,y4,y5,y6,y7,y8,y9,y10,y11,y12,y13,y14,some (.int m),some (.int (MX m)),y17]) h:=by
 have xm:=lM (n:=m) (k:=m / 2) w h1 (by lia) (by lia)
 have q:bX tt1 (ah aB (aa (ae 1) (aa (ae 0) aj))) (fun d=>[some d,some (.int m)]) ((SO m (m / 2)).map tpI) h=.ok (((SO m (m / 2)).map (JV m)).map D.int) h:=by
  rw[fN tpI (fun s=>D.int (JV m s)) (SO m (m / 2)) (fun s hs=>by
   have xj:=m9 (n:=m) (h:=h) h1 (by lia) (qW hs)
   unfold tpI
   simp[xj]),Mf]
  rfl
 have l:((SO m (m / 2)).map tpI).length<=1000000:=by rw[LQ];have:=sY (n:=m) (k:=m / 2) (by lia);lia
 have hp:0<((SO m (m / 2)).map (JV m)).length:=by rw[LQ];have:=C3 m (by lia) h1;lia
 have mx:=Iq (ns:=(SO m (m / 2)).map (JV m)) (h:=h) hp
 have le:lE ((SO m (m / 2)).map (JV m))<=MX m:=by
  obtain⟨s,hs,e⟩:=L5.mp (max_mem hp)
  rw[<- e]
  refine le_max (L5.mpr ⟨s,?_,rfl⟩)
  rw[<- wJ] at hs
  exact(Mj.mp hs).1
 have s2:sml 2=true:=by decide +kernel
 have d2:(m:Int) / 2=((m / 2:Nat):Int):=by lia
 have le:¬ MX m<lE ((SO m (m / 2)).map (JV m)):=by lia
 rw[<- d2] at xm
 generalize lE ((SO m (m / 2)).map (JV m))=A at *
 generalize ((SO m (m / 2)).map (JV m)).map D.int=J at *
 generalize (SO m (m / 2)).map tpI=X at *
 generalize MX m=M at *
 simp[S20,s2,xm,l,q,mx,le]
end
theorem CV:Bx:=by
 intro ns i c y3 y4 y5 y6 y7 y8 y9 y10 y11 y12 y13 y14 y15 y16 y17 h w
 obtain⟨n,p2,⟨h1,hn⟩,e2⟩:=HK (d0:=some (.scr (ns.map D.int))) (d2:=some (.int c)) (p:=wZ c) (h:=h) (y4:=y4) (y5:=y5) (y6:=y6) (y7:=y7) (y8:=y8) (y9:=y9) (y10:=y10) (y11:=y11) (y12:=y12) (y13:=y13) (y14:=y14) (y15:=y15) (y16:=y16) (y17:=y17) i
 obtain⟨fl,k,p3,hk,e3⟩:=Iu (d0:=some (.scr (ns.map D.int))) (d1:=some (.int i)) (d2:=some (.int c)) (p:=p2) (h:=h) (y5:=y5) (y6:=y6) (y7:=y7) (y8:=y8) (y9:=y9) (y10:=y10) (y11:=y11) (y12:=y12) (y13:=y13) (y14:=y14) (y15:=y15) (y16:=y16) (y17:=y17) h1 hn
 obtain⟨z10,z11,e7⟩:=I_ (fl:=fl) (d0:=some (.scr (ns.map D.int))) (d1:=some (.int i)) (d2:=some (.int c)) (y3:=some (.ref h.length)) (y5:=some (sT n fl)) (y6:=some (.int k)) (y7:=some (sT n (ng fl))) (y10:=y10) (y11:=y11) (y12:=y12) (y13:=y13) (y14:=y14) (y15:=y15) (y16:=y16) (y17:=y17) (iA w p3) h1 hn
 obtain⟨t,p4,ht,e12⟩:=FV (fl:=fl) (d0:=some (.scr (ns.map D.int))) (d1:=some (.int i)) (d2:=some (.int c)) (p:=p3) (h:=h) (y4:=some (.int n)) (y5:=some (sT n fl)) (y6:=some (.int k)) (y7:=some (sT n (ng fl))) (y8:=some (.tup (((aA n fl).take 6).map D.int))) (y9:=some (.int (i5 n ((aA n fl).take 6)))) (y10:=z10) (y11:=z11) (y13:=y13) (y14:=y14) (y15:=y15) (y16:=y16) (y17:=y17) h1 hn
 obtain⟨m,p5,⟨m1,m8⟩,e17⟩:=F6 (d0:=some (.scr (ns.map D.int))) (d1:=some (.int i)) (d2:=some (.int c)) (p:=p4) (h:=h) (y4:=some (.int n)) (y5:=some (sT n fl)) (y6:=some (.int k)) (y7:=some (sT n (ng fl))) (y8:=some (.tup (((aA n fl).take 6).map D.int))) (y9:=some (.int (i5 n ((aA n fl).take 6)))) (y10:=z10) (y11:=z11) (y12:=some (.int (jcV n fl []))) (y13:=some (.int t)) (y14:=some (FO n fl t)) (y15:=y15) (y16:=y16) (y17:=y17)
 have t0:(0:Int)<=t:=by lia
 refine⟨_,_,?_,some (.ref h.length),some (.int n),some (sT n fl),some (.int k),some (sT n (ng fl)),some (.tup (((aA n fl).take 6).map D.int)),some (.int (i5 n ((aA n fl).take 6))),z10,z11,some (.int (jcV n fl [])),some (.int t),some (FO n fl t),some (.int m),some (.int (MX m)),some (.tup ((TM m).map tpI)),rfl,iA w p5⟩
 rw[Jg]
 simp only[IS,cu,K2,Io,e2,e3,Im h1 hn,Hf,GU,e7,Jh h1 hn,IJ (iA w p3) h1 hn hk,ER (iA w p3) h1 hn,Fh h1 hn,e12,Gd h1 hn t0 ht,FN h1 hn t0 ht,Gq (iA w p4) h1 hn t0 ht,FQ (iA w p4) h1 hn t0 ht,e17,Ft (iA w p5) m1 m8,Eh m1 m8,GH (iA w p5) m1 m8]
theorem Ff (ns:List Int) (hl:ns.length<=63):∃h,nz [.scr (ns.map D.int)] []=.ok (.bl true) h:=GC CV ns hl
end FC
open PySem PySem.W PyProof.Rows
local macro_rules | `(tactic| o_head $H)=>`(tactic| (refine holds_open (q:=FC.Q) (loose:=[]) (Xt:=(fun s=>xlAt FC.Q [] s&&recOk (RowW.records (OpenRow.toRowW (OpenLaw.row PySem.Challenge.rw_fallcounts_k36_whole_sets))) s)) (XP:=XL FC.Q []) (Yf:=Hook.obs $H) (Ya:=Hook.val $H) (YP:=Hook.says $H) (N:=4620) (L2.FE.yt (by decide) (by kernel_rfl) (fun _=>by kernel_rfl) FC.IQ FC.IE (fun w os=>by kernel_rfl)) (Hook.of $H) (Hook.keeps $H) (fun s e=>xl_of s (Bool.and_eq_true_iff.mp e).1) XL.keeps (by rfl) (by rfl) (by rfl) (fun s e=>recFacts_of (Bool.and_eq_true_iff.mp e).2) (by rfl) (by first | assumption | decide +kernel) (by decide +kernel) ⟨rfl,rfl,rfl,rfl,rfl,by decide +kernel⟩ ?hw ?hc))
set_option maxRecDepth 100000 in
set_option maxHeartbeats 0 in
theorem PySem.Challenge.cw_fallcounts_k36_whole_sets_holds : PySem.Challenge.rw_fallcounts_k36_whole_sets.Holds := by
 w_on;refine PySem.W.holds_law FC.hw fun hw=>?_;k_head;w_witness2
 k_fill
 refine FC.walk (l:=Nn) rfl rfl (fun w h Y=>by first | exact PySem.W.kIn_of Y | exact PySem.W.km_in_of Y) (fun w h Y=>PySem.W.km_tabs_of Y) (fun _=>by kernel_rfl) FC.Ff ?F
 case F=>
  intro w mg fa h KX G hmg
  refine FC.all_mk KX G hmg (by kernel_rfl) ?T
  case T=>
   constructor
   all_goals first | (refine' L2.FE.Eo ?a ?l ?c ?k;(case a=>k_is);(case l=>k_is);(case c=>k_is);(case k=>k_is)) | (refine' L2.FE.G1 ?a ?l ?c ?k ?h1 ?h2 ?h3;(case a=>k_is);(case l=>k_is);(case c=>k_is);(case k=>k_is);(case h1=>kernel_rfl);(case h2=>kernel_rfl);(case h3=>kernel_rfl)) | exact⟨_,rfl⟩ | k_is
