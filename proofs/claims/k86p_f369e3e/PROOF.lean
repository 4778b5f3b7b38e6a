import PyProof.Rows.All
import Wide.All
import OpenK.AllK
import Wide.FinOn
import Lean
import KE.KNestM
import PyProof.EqAt
import PyProof.EqKinds
import PyProof.TupleCall
import PyProof.EnumMake
import PyProof.Draws
import KE.KDictList
import KE.KTryMore
import KE.KEqDict
import PyProof.ExcInit
import PyProof.InstStoreFacts
import KE.KSortTup
import PySem.Challenge.RW_fallcounts_k86_whole_draws
set_option Elab.async false
set_option linter.all false
set_option maxRecDepth 100000
set_option maxHeartbeats 8000000
open PySem.W renaming Frag→ab,nsIn→NX,mg_none_of→N6,fnOf→Oh,kia_one→Oq,keepIn→Oy,envX→OL,boot_heap→OO,codeHdIn→OT,kitOne→OX,kla_obj→OZ,codeIn→PK,cellsFrom_some→PL,mg_of→P4,tabObj→Qd,callWith_K→Rr,methodObj→RC,kitx_dict→RE,instObj→RO,boot_drawn→R1,lookIn→R6,boot_toks→Si,SharedT→SX,OpenLaw→SY
open PySem renaming wpAny_bind→gV,wpAny_pure→k5,Value→Ng,Shared→Nk,boot_len→Nn,Program→NC,Around→N1,World→N4,wpAny_newObj_type→N_,SetTable→Oc,wpAny_holding→Oe,sizeLine_eq→Oi,Builtin→Oo,wpAny_mono→Ov,wpAny_call_entry→OE,wpAny_callSpecial?_slot→OP,wpAny_typeNameOfWhole_keyiter→O2,codeAny_mono→O_,wpAny_truthy_bool→Pa,wpAny_standAt→Pk,NameKind→Pp,wpAny_passesOwn→Pt,codeAny_builtin→Px,mem_of_lookup→PH,wpAny_pyIter_tuple→PN,wpAny_setState_of→P6,lookup_relabel_local→P_,FuncData→Qr,wpAny_Call_Name_kw→Qs,wpAny_newList→Qx,wpAny_field→QH,wpAny_pyIter_enum→QJ,wpAny_loadName_local→Q7,wpAny_newFunctionEnv→Q8,Scope→Rh,wpAny_execs_nil→Ri,codeAny_of_tree→Rl,wpAny_loadPart'→Rm,wpAny_typeOf→Rt,tupleKind_room_in1→Rw,wpAny_seqItems→RA,wpAny_setField→RB,wpAny_assign_Name→RD,call_meets→RG,wpAny_pyIter_list→RH,wpAny_dictEntries→RI,wpAny_noRaise→RK,noFill_tuple_add→RL,wpAny_forIn_list→RN,seqIndex_neg→RT,wpAny_dictEpoch→R0,wpAny_Name→R3,wpAny_rule→R4,wpAny_call→R5,fitsIndex_both→R7,wpAny_runValue→R8,seqIndex_of→Se,Keyword→Sf,wpAny_of_eq→Sg,Arguments→Sj,seq_tuple_add→Sk,IsPart→Sl,wpAny_attempt→So,concat_meets→Su,codeAny_loop→Sv,OsState→SA,PassesOwn→SG,BindsTo→SH,wpAny_noted→SI,typeIs_int→SS,call→SU,Operator→S_,DictEntry→Ta,IsEnum→Tc,Walks→Tf
open PySem.Heap renaming get?_push_of_some→k3,lt_size→Nh,get?_push_size→Nm,SameBut→PF,get?_update_self→PV,size_push→QO
open List renaming mem_cons_of_mem→ox,range→Nj,mem_append_right→Nl,getElem?_eq_getElem→Np,getElem?_append_left→Nq,mem_cons_self→Nt,length_map→Nw,mem_cons→Nx,getElem?_append_right→Ny,mem_singleton→Nz,size_toArray→NB,map_cons→ND,length_take→NH,pairwise_iff_getElem→NI,getElem?_map→NN,mem_of_getElem?→NP,pairwise_append→NR,replicate→NS,all_eq_true→NU,getElem?_eq_some_iff→NV,length_append→NY,pairwise_cons→NZ,mem_filter→N0,take_of_length_le→N2,mem_range→N7,length_cons→N8,mem_append→N9,take_append_drop→Od,nodup_cons→Of,lookup_cons→Og,map_append→Ou,append_assoc→Ow,foldl_cons→Oz,getElem?_eq_none_iff→OA,drop_eq_getElem_cons→OB,take_append_of_le_length→OG,map_congr_left→OH,getElem?_eq_none→OJ,getElem_of_mem→OW,map_map→O1,any_cons→O6,pairwise_singleton→O7,nil_append→Pd,drop_of_length_le→Pf,getD_eq_getElem?_getD→Pj,mem_iff_getElem→Pq,ext_getElem?→Py,range_succ→Pz,getElem?_replicate→PJ,getElem?_drop→PQ,getElem?_take→PR,append_nil→PU,length_set→PX,find?_cons→PY,length_range→P5,perm_append_singleton→P8,mem_of_mem_take→Qa,drop_drop→Qe,length_drop→Qf,prefix_refl→Qg,any_eq_true→Qh,replicate_succ→Qi,filter_eq_self→Ql,all_cons→Qu,filter_append→QA,getElem?_set_self→QB,drop_eq_nil_of_le→QE,getElem_take→QK,pairwise_map→QL,filter_congr→QM,findIdx_cons→QN,length_replicate→QR,Perm→QU,not_mem_nil→QY,ext_getElem→QZ,perm_middle→Q0,drop_append→Q1,getElem_mem→Q3,nodup_range→Q4,mem_append_left→Q6,mem_of_mem_drop→Q9,Pairwise→Rb,of_mem_zip→Rj,forIn_cons→Rk,length_reverse→Ro,mem_map→Rx,cons_append→RM,map_nil→RS,drop_zero→Sa,take→Sq,Nodup→Ss,toArray→Sy,any_map→Sz,range'→SJ,set→Th
open Nat renaming le_refl→Ni,ne_of_lt→NA,lt_of_lt_of_le→NJ,le_trans→NT,zero_le→Ox,lt_irrefl→OD,lt_or_eq_of_le→OR,lt_succ_self→OS,zero_add→O9,le_of_lt_succ→Pb,lt_succ_of_lt→P1,le_succ→Qj,ne_of_gt→Qm,mul_comm→Qq,not_lt_zero→Qw,lt_or_ge→QV,not_lt→Rf,mod_lt→Rg,lt_trans→Rv,le_of_lt→RQ,min_eq_left→RZ,beq→SK,blt→Tg
open Array renaming getElem?_toList→Nr,length_toList→Nu,getElem_mem→NO,mem_toList_iff→O5,getElem?_eq_getElem→Pn,getElem_extract→P0,getElem?_eq_none→QD,append_assoc→Rp
open Eq renaming trans→Nv
open PyProof.Rows renaming SortSt→NF,boot_tuple→NM,Keyed→N3,slot_tuple_getitem→Oa,callWith_type1→Pc,SortKind→Qy,boot_int→QW,boot_set→QX,listUpdate_at→Ra,assignInOrder_cons→Rq,AllBare→RP,listItems_at→RV,get?_update_seq→RW,entry_list_sort→RX,slot_list_sort→R9,args_list_sort→R_,seqEpoch_at→Sh,sortedAll_old→Sn,args_sorted1→Sw,sortedAll_at→Sx,Subscript_→SR,step_dedup→SV,IsTup→Ti
open PySem.Challenge renaming pw_fallcounts_k86_whole_draws→NG
open Bool renaming false_ne_true→NK,and_eq_true→NQ,eq_iff_iff→PZ,and_eq_true_iff→P9,false_eq_true→Rz
open Option.some renaming inj→N5
open PySem.PassesOwn renaming never→Ob
open PySem.Value renaming ref→Oj,none→OI,int→Pr,type→QG,isInt→SD,str→SF,bool→SQ
open PySem.SetTable renaming bits→Ol,runEnd→OC,insertAt→OM,below→OY,leap→O8,turns→Po,Probe→QP,grown→QQ,advance→Q5,sizeAbove→Ry,fresh→Sb,fill→Sr
open PySem.SeqAt renaming EqAt→Om,RcNeAt→Sm
open PySem.F renaming called_set→Ot,slot_dict_keyiterator_next→ON,slot_tuple_iterator_next→Ph,slot_tuple_index→PB,type_tuple_index→PC,args_tuple_add_2→Qo,entry_tuple_add→Qt,slot_tuple_add→QC,slot_dict_get→QT
open PySem.NameKind renaming free→OF,cell→Q_
open ForInStep renaming yield→OQ
open PySem.Obj renaming mapSeq→OU,data_mapFields→Qv
open PySem.Heap.SameBut renaming update→OV
open Int renaming mul_le_mul_of_nonneg_right→O0,toNat_natCast→P2,pow_pos→SN
open Option renaming map_eq_some_iff→Pe,isSome_iff_exists→Pu,map_some→RU,map→SO
open PySem.W.Fast renaming tw5923862056798008813→Pg
open PySem.Builtin.Slice renaming slicePlaces→Pl,sliceAdjust→Qb
open PySem.Builtin.Tuple renaming tupleExact→Pw
open PySem.Calls renaming spliced_cons→PM,Name_function_global→P7,call_function_entry→Qc,spliced_nil→RF
open PySem.Builtin.Int renaming intBits→Qk
open True renaming intro→Qn
open PySem.Builtin.List renaming listTooLong→Qp
open PyProof.Rows.F renaming plain_set_update_loop→Qz
open PySem.SetTable.layClean renaming free→QF
open List.Pairwise renaming nil→QI
open False renaming elim→Rc
open PySem.Code renaming quiet_builtin→Ru
open PySem.SetTable.probe renaming go→RJ
open List.cons renaming injEq→RY
open Ne renaming symm→Sd
open Sum renaming inl→SE,inr→S0
open Or renaming inl→SW,inr→Te
open PySem.Expr renaming Name→Td
namespace L2.FE
open PySem PySem.W PySem.Calls
noncomputable def Cz:List Obj->BT->Nat->Option BT
 | [],t,_=>some t
 | o::r,t,n=>match ((t.ins n o).get n).isSome with
  | true=>Cz r (t.ins n o) (n+1)
  | false=>none
theorem tW {life:Life}:∀{r:List Obj}{t T:BT}{n:Nat}{a:Array Obj},Cz r t n=some T->absHeap t n life=⟨a,life⟩->absHeap T (n+r.length) life=⟨a++r.toArray,life⟩
 | [],t,T,n,a,h,e=>by cases h;simpa using e
 | o::r,t,T,n,a,h,e=>by
  unfold Cz at h
  cases g:((t.ins n o).get n).isSome with
  | false=>rw[g] at h;cases h
  | true=>
   rw[g] at h
   have x:absHeap (t.ins n o) (n+1) life=⟨a.push o,life⟩:=by rw[absHeap_ins g,e];rfl
   have:=tW h x
   rw[N8,show n+(r.length+1)=n+1+r.length by omega,this]
   simp
noncomputable def xR (p:NC) (w:N4) (n₀:Nat) (ann:Option Ng):Nat->SX->Thread->Option SX
 | 0,_,_=>none
 | n+1,s,t=>match through t with
  | true=>some s
  | false=>match PySem.W.Fast.tw6613529449190102663 n₀ ann t with
   | false=>none
   | true=>match PySem.W.Fast.tw10156331382660048174 (PySem.W.Fast.tw11892475500146522536 PySem.W.Fast.tw14364793385576792824) p w s t with
    | some (s',t')=>xR p w n₀ ann n s' t'
    | none=>none
theorem uV {p:NC}{w:N4}{n₀:Nat}{ann:Option Ng}:∀{n:Nat}{s r:SX}{t:Thread},xR p w n₀ ann n s t=some r->topRun treeTable p w n₀ ann n s.abs t=some r.abs
 | 0,_,_,_,h=>by cases h
 | n+1,s,r,t,h=>by
  unfold xR at h
  unfold topRun
  cases ht:through t with
  | true=>rw[ht] at h;cases h;rfl
  | false=>
   rw[ht,<- PySem.W.Fast.te6613529449190102663] at h
   cases hk:stepOk n₀ ann t with
   | false=>simp only[hk] at h;cases h
   | true=>
    simp only[hk] at h
    rw[<- PySem.W.Fast.te10156331382660048174,<- PySem.W.Fast.te11892475500146522536,<- PySem.W.Fast.te14364793385576792824] at h
    cases hs:stepT (denote treeTable) p w s t with
    | none=>rw[hs] at h;cases h
    | some x=>obtain⟨s₂,t₂⟩:=x;rw[hs] at h;rw[stepT_spec hs];exact uV h
noncomputable def qw (p:NC) (w:N4) (N:Nat) (os:SA):Option SX:=
 match (OO w.params).isNs mainGlobals with
 | true=>(Cz (OO w.params).objs.toList .nil 0).bind fun T=>xR p w (OO w.params).objs.size ((OO w.params).nsMap mainGlobals (Str.ofString "__annotations__")) N ⟨T,(OO w.params).objs.size,(OO w.params).life,#[],R1,Si,os⟩ (topStub p)
 | false=>none
noncomputable def AV (p:NC) (w:N4) (s₁:Nk):Bool:=staticsOk (Pg p.main.body) (OO w.params) s₁.heap&&namesBound p s₁.heap&&gensDone s₁&&laidKept (OO w.params) s₁.heap
theorem zr {p q:NC}{loose:List Str}{Xt:Nk->Bool}{α:Type}{Yf:Nk->α}{Ya:N4->α}{N:Nat} (hN:Nat.ble 600 N=true) (e:opening p=plainProg p.main.scope.names) (f:∀s,fenceModules? p s=some s)
  (h1:∀(w:N4) (os:SA),(qw p w N os).map (fun s=>AV p w s.abs)=some true)
  (h2:∀(w:N4) (os:SA),(qw p w N os).map (fun s=>PySem.W.Fast.tw4187177175401517315 q loose (Pg p.main.body) Xt true s.abs)=some (openGood q loose))
  (h3:∀(w:N4) (os:SA),(qw p w N os).map (fun s=>Yf s.abs)=some (Ya w)):LeftO p q loose Xt Yf Ya N:=fun w=>by
 obtain⟨s,hs,e'⟩:=Pe.mp (boot_open e hN f w)
 obtain⟨H,gs,d,k,os⟩:=s
 obtain⟨rfl,rfl,rfl,rfl⟩:H=OO w.params/\gs=_/\d=R1/\k=Si:=by simpa using e'
 obtain⟨r,hr,l1⟩:=Pe.mp (h1 w os)
 obtain⟨r2,hr2,l2⟩:=Pe.mp (h2 w os)
 obtain⟨r3,hr3,l3⟩:=Pe.mp (h3 w os)
 obtain rfl:r=r2:=N5 (hr.symm.trans hr2)
 obtain rfl:r=r3:=N5 (hr.symm.trans hr3)
 unfold AV at l1
 rw[<- PySem.W.Fast.te5923862056798008813] at l1
 rw[<- PySem.W.Fast.te4187177175401517315,<- PySem.W.Fast.te5923862056798008813] at l2
 unfold qw at hr
 cases hn:(OO w.params).isNs mainGlobals with
 | false=>rw[hn] at hr;cases hr
 | true=>
  rw[hn] at hr
  obtain⟨T,hT,hr⟩:=Option.bind_eq_some_iff.mp hr
  have z:=tW (life:=(OO w.params).life) (n:=0) (a:=#[]) hT rfl
  have z':absHeap T (OO w.params).objs.size (OO w.params).life=OO w.params:=by
   rw[O9,Nu] at z
   rw[z]
   simp
  have hr:=uV hr
  have st:(SX.mk T (OO w.params).objs.size (OO w.params).life #[] R1 Si os).abs=⟨OO w.params,#[],R1,Si,os⟩:=by
   show Nk.mk _ _ _ _ _=_
   rw[z']
  rw[st] at hr
  unfold openEnds
  rw[hs]
  show SO _ (topFrom treeTable p w N _)=_
  have t:topFrom treeTable p w N ⟨OO w.params,#[],R1,Si,os⟩=some r.abs:=by
   unfold topFrom
   dsimp only
   rw[hn]
   rw[hr]
   show(match staticsOk (importedModules p.main.body) (OO w.params) r.abs.heap&&namesBound p r.abs.heap&&gensDone r.abs&&laidKept (OO w.params) r.abs.heap with | true=>_ | false=>_)=_
   rw[l1]
  rw[t]
  show some (openSeen q loose (importedModules p.main.body) Xt true r.abs,Yf r.abs)=_
  rw[l2,l3]
noncomputable def viewOf (p:NC) (keep:List Nat):NC:={ p with main:={ p.main with body:=keep.filterMap fun i=>p.main.body[i]? } }
end L2.FE
section
open PySem PySem.W PyProof.Rows
noncomputable def FC.Q:NC:=L2.FE.viewOf NG [1,2,3,4,5,7,8,9,11,12,13,14,15,16,18,19,20,21,23,25,26,27,28,29,30,31,32,33,34,35,36,37,38,40,41,42,43,44,45,46,47,48,49,50,51,52,53,54,55,57,58,59,60,61,62]
theorem FC.IZ:∀(w:N4) (os:SA),(L2.FE.qw NG w 5158 os).map (fun s=>L2.FE.AV NG w s.abs)=some true:=fun w os=>by kernel_rfl
theorem FC.Jw:∀(w:N4) (os:SA),(L2.FE.qw NG w 5158 os).map (fun s=>PySem.W.Fast.tw4187177175401517315 FC.Q [("numbers_needed_triangle" : Str),("numbers_needed_listed" : Str)] (Pg NG.main.body) (fun s=>xlAt FC.Q [] s&&recOk (RowW.records (OpenRow.toRowW (SY.row PySem.Challenge.rw_fallcounts_k86_whole_draws))) s) true s.abs)=some (openGood FC.Q [("numbers_needed_triangle" : Str),("numbers_needed_listed" : Str)]):=fun w os=>by kernel_rfl
end
namespace L2
open PySem PySem.Spec PyProof.Rows
noncomputable abbrev Key:=Sum Int Str
noncomputable def qR:Key->Ng->Bool
 | .inl k,v=>SD k v
 | .inr x,v=>Ng.isStrOf x v
noncomputable def LF (w:N4):Key->Int
 | .inl k=>hashInt k
 | .inr x=>hashStr w x
theorem cf:∀{k:Key}{v:Ng},qR k v=true->(∃i t,k=SE i/\v=Pr i t)\/(∃x t,k=S0 x/\v=SF x t)
 | .inl i,v,h=>by
  obtain⟨t,e⟩:=Ng.isInt_shape (k:=i) (v:=v) h
  simp_all
 | .inr x,v,h=>by
  obtain⟨t,e⟩:=Ng.isStrOf_shape (x:=x) (v:=v) h
  simp_all
theorem z0 (i:Int) (t:Tok):qR (.inl i) (.int i t)=true:=by simp[qR,SD]
theorem zX (x) (t):qR (.inr x) (.str x t)=true:=by simp[qR,Ng.isStrOf]
theorem HL (a b):decide ((SE a:Key)=SE b)=(a == b):=by
 grind
theorem GK (a b):decide ((S0 a:Key)=S0 b)=decide (a=b):=by
 simp
theorem FT (a:Int) (b:Str):decide ((SE a:Key)=S0 b)=false:=decide_eq_false (fun q=>nomatch q)
theorem FZ (a:Str) (b:Int):decide ((S0 a:Key)=SE b)=false:=decide_eq_false (fun q=>nomatch q)
noncomputable def cw (prog) (w):PySem.KeyKind prog w Key where
 is:=qR
 hash:=LF w
 inj:=fun v a b ha hb=>by
  rcases cf ha with⟨i,t,rfl,rfl⟩ | ⟨x,t,rfl,rfl⟩
  ·rcases cf hb with⟨j,u,rfl,e⟩ | ⟨y,u,rfl,e⟩
   ·injection e with e1 _;rw[e1]
   ·exact nomatch e
  ·rcases cf hb with⟨j,u,rfl,e⟩ | ⟨y,u,rfl,e⟩
   ·exact nomatch e
   ·injection e with e1 _;rw[e1]
 byValue:=fun k v h=>by
   rcases cf h with⟨i,t,rfl,rfl⟩ | ⟨x,t,rfl,rfl⟩<;>rfl
 pyHash:=fun hv h=>by
  rcases cf hv with⟨i,t,rfl,rfl⟩ | ⟨x,t,rfl,rfl⟩
  ·exact wpAny_pyHash_int h
  ·exact wpAny_pyHash_str h
 eqBool:=fun hu hv h=>by
  rcases cf hu with⟨i,t,rfl,rfl⟩ | ⟨x,t,rfl,rfl⟩
  ·rcases cf hv with⟨j,u,rfl,rfl⟩ | ⟨y,u,rfl,rfl⟩
   ·rw[HL] at h;exact wpAny_eqBool_int h
   ·rw[FT] at h;exact Om.int_str i t y u _ _ _ _ h
  ·rcases cf hv with⟨j,u,rfl,rfl⟩ | ⟨y,u,rfl,rfl⟩
   ·rw[FZ] at h;exact Om.str_int x t j u _ _ _ _ h
   ·rw[GK] at h;exact wpAny_eqBool_str h
 «strs»:=fun k x t v h=>by
  rcases cf h with⟨i,u,rfl,e⟩ | ⟨y,u,rfl,e⟩
  ·exact nomatch e
  ·injection e with e1 _
   subst e1
   cases v<;>rfl
theorem ve (prog) (w) (i) (t):(cw prog w).is (.inl i) (.int i t)=true:=z0 i t
theorem vQ (prog) (w) (x) (t):(cw prog w).is (.inr x) (.str x t)=true:=zX x t
inductive V where
 | non | bl (b:Bool) | int (i:Int) | str (x:Str) | byt (b:Array UInt8) | flt (b:UInt64) | ref (a:Addr) | ty (n:String)
 deriving DecidableEq
noncomputable def RelV:V->Ng->Prop
 | .non,u=>u=OI
 | .bl b,u=>u=SQ b
 | .int i,u=>∃t,u=Pr i t
 | .str x,u=>∃t,u=SF x t
 | .byt b,u=>∃t,u=Ng.bytes b t
 | .flt b,u=>∃t,u=Ng.float b t
 | .ref a,u=>u=Oj a
 | .ty n,u=>u=QG n
noncomputable abbrev Vals:List V->List Ng->Prop:=Paired RelV
theorem Vals.length (r:Vals xs us):xs.length=us.length:=Paired.length r
theorem Vals.get:∀{xs:List V}{us:List Ng}{i:Nat}{x:V},Vals xs us->xs[i]?=some x->∃u,us[i]?=some u/\RelV x u
 | _,_,_,_,.nil,e=>by simp at e
 | _,_,0,_,.cons r _,e=>by simp_all
 | _,_,i+1,x,.cons _ t,e=>by
  obtain⟨u,h1,h2⟩:=Vals.get (i:=i) (x:=x) t (by simp_all)
  simp_all
theorem Vals.set {x:V}{u:Ng} (r:RelV x u):∀{xs:List V}{us:List Ng} (i:Nat),Vals xs us->Vals (xs.set i x) (us.set i u)
 | _,_,_,.nil=>.nil
 | _,_,0,.cons _ t=>.cons r t
 | _,_,i+1,.cons q t=>.cons q (Vals.set r i t)
theorem Vals.append:∀{xs ys:List V}{us ws:List Ng},Vals xs us->Vals ys ws->Vals (xs++ys) (us++ws)
 | _,_,_,_,.nil,s=>s
 | _,_,_,_,.cons r t,s=>.cons r (Vals.append t s)
theorem Vals.take:∀{xs:List V}{us:List Ng} (n:Nat),Vals xs us->Vals (xs.take n) (us.take n)
 | _,_,0,_=>.nil
 | _,_,_+1,.nil=>.nil
 | _,_,n+1,.cons r t=>.cons r (Vals.take n t)
theorem Vals.drop:∀{xs:List V}{us:List Ng} n , Vals xs us->Vals (xs.drop n) (us.drop n)
 | _,_,0,r=>r
 | _,_,_+1,.nil=>.nil
 | _,_,n+1,.cons _ t=>Vals.drop n t
noncomputable def kM:Option V->Option Ng->Prop
 | some v,some u=>RelV v u
 | none,none=>True
 | _,_=>False
noncomputable def KV:List (κ × V)->List (κ × Ng)->Prop:=Paired fun(p:κ × V) (q:κ × Ng)=>p.1=q.1/\RelV p.2 q.2
noncomputable def kV:Key->V
 | .inl i=>.int i
 | .inr x=>.str x
inductive HO where
 | lst (xs:List V)
 | tup (xs:List V)
 | dK (kvs:List (Key × V)) | dT (kvs:List (List Key × V))
 | set (S:Int->Bool) (n:Nat)
 | ins (C dx:Addr) (fs:List (Str × V))
 | own (x:Addr)
 | xd (fs:List (Str × V))
 | met (f x:Addr)
 | rng (lo hi:Int)
 | frz (o:Obj) (u:HO)
 | tbl (ps:Array Ng)
 | ext (φ:Heap->Prop)
noncomputable abbrev Hp:=Addr->Option HO
noncomputable def upd (H:Hp) (a:Addr) (o:HO):Hp:=fun b=>if b=a then some o else H b
theorem bp:upd H a o a=some o:=by unfold upd;simp
theorem aQ (h:b≠a):upd H a o b=H b:=by unfold upd;simp_all
theorem IQ {H:Hp} (h:H a=some o) (h':H b=some u) (d:o≠u):a≠b:=by
 grind
theorem bF {H:Hp} (h:H a=some o) (h':H b=none):a≠b:=by
 grind
noncomputable def ng (h:Heap) (a:Addr) (its:Array Ng):Prop:=∃o,h.get? a=some o/\(o.cls=.type "tuple" /\ ∃n,o.data=.seq its n)/\o.dict=none
theorem ng.tup {h:Heap}{a:Addr}{its:Array Ng} (x:ng h a its):Ti h a its:=let ⟨o,e,⟨c,n,d⟩,_⟩:=x;⟨o,e,c,n,d⟩
theorem ng.new (h:Heap) (its):ng (h.push { cls:=.type "tuple", data:=.seq its }) h.objs.size its:=⟨_,Nm _ rfl,⟨rfl,_,rfl⟩,rfl⟩
section
variable (P:NC) (w:N4)
noncomputable def bK (H:Hp) (h:Heap) (a:Addr):HO->Prop
 | .lst xs=>xs.length<=sizeLine/\∃its n,Vals xs its/\h.get? a=some { cls:=.type "list", data:=.seq its.toArray n }
 | .tup xs=>xs.length<=sizeLine/\∃its:List Ng,Vals xs its/\ng h a its.toArray
 | .dK kvs=>kvs.length<=sizeLine/\(a == sysModules)=false/\∃vs,KV kvs vs/\h.DictOf (cw P w) a vs
 | .dT kvs=>kvs.length<=sizeLine/\(a == sysModules)=false/\∃xs:List (List Key × Addr × Ng),
   Paired (fun(p:List Key × V) (q:List Key × Addr × Ng)=>p.1=q.1/\H q.2.1=some (.tup (p.1.map kV))/\RelV p.2 q.2.2) kvs xs ∧
   ∃o es ep,h.get? a=some o/\o.ExactDict/\o.data=.dict es ep/\es.toList=xs.map (entryOfKey (tupleKind (cw P w)))/\(xs.map (·.1)).Nodup
 | .set S n=>h.SetOf (intKind P w) a S n
 | .ins C dx fs=>H dx=some (.own a)/\fs.length<=1000/\dx≠a/\h.get? a=some (RO C dx) ∧
   ∃mA,h.Ns1 dx mA/\(∀f,kM (fs.lookup f) (mA f))/\PySem.Within mA (fs.map (·.1))
 | .own _=>∃o,h.get? a=some o
 | .xd fs=>∃mA,h.Ns1 a mA/\∀f,kM (fs.lookup f) (mA f)
 | .rng lo hi=>∃t u v,h.get? a=some { cls:=.type "range", data:=.fields #[.int lo t,.int hi u,.int 1 v] }
 | .frz o u=>h.get? a=some o/\bK H h a u
 | .tbl ps=>h.get? a=some { cls:=.none,data:=.fields ps }
 | .met f x=>h.get? a=some (RC (.ref f) (.ref x))
 | .ext φ=>φ h/\(∃o,h.get? a=some o)/\∀h1 h2:Heap,φ h1->(∀o,h1.get? a=some o->h2.get? a=some o)->φ h2
noncomputable def HOk (H:Hp) (h:Heap):Prop:=∀a o,H a=some o->bK P w H h a o
end
section
variable {P:NC}{w:N4}{H H':Hp}{h h':Heap}{a:Addr}{o:HO}
theorem bK.lt (x:bK P w H h a o):a<h.objs.size:=by
 cases o with
 | lst xs=>obtain⟨_,_,_,_,e⟩:=x;exact Nh e
 | tup xs=>obtain⟨_,_,_,_,e,_⟩:=x;exact Nh e
 | dK kvs=>obtain⟨_,_,_,_,o,_,_,e,_⟩:=x;exact Nh e
 | dT kvs=>obtain⟨_,_,_,_,o,_,_,e,_⟩:=x;exact Nh e
 | set S n=>obtain⟨o,_,_,_,e,_⟩:=x;exact Nh e
 | ins C dx fs=>obtain⟨_,_,_,e,_⟩:=x;exact Nh e
 | own y=>obtain⟨_,e⟩:=x;exact Nh e
 | xd fs=>obtain⟨_,⟨_,_,_,e,_⟩,_⟩:=x;exact Nh e
 | rng lo hi=>obtain⟨_,_,_,e⟩:=x;exact Nh e
 | frz ob u=>obtain⟨e,_⟩:=x;exact Nh e
 | tbl ps=>exact Nh (show h.get? a=some _ from x)
 | met f y=>exact Nh (show h.get? a=some _ from x)
 | ext φ=>obtain⟨_,⟨_,e⟩,_⟩:=x;exact Nh e
theorem Paired.pO {α β:Type}{F G:α->β->Prop}:∀{l₁:List α}{l₂:List β},Paired F l₁ l₂->(∀a b,F a b->G a b)->Paired G l₁ l₂
 | _,_,.nil,_=>.nil
 | _,_,.cons r t,f=>.cons (f _ _ r) (Paired.pO t f)
theorem bK.kW (x:bK P w H h a o) (k:∀b u,(b=a\/H b=some (.own a))->h.get? b=some u->h'.get? b=some u)
  (ho:∀b,H b=some (.own a)->H' b=some (.own a)) (ht:∀b xs,H b=some (.tup xs)->H' b=some (.tup xs)):bK P w H' h' a o:=by
 induction o with
 | lst xs=>obtain⟨z,its,n,r,e⟩:=x;exact⟨z,its,n,r,k _ _ (.inl rfl) e⟩
 | tup xs=>obtain⟨z,its,r,ob,e,c⟩:=x;exact⟨z,its,r,ob,k _ _ (.inl rfl) e,c⟩
 | dK kvs=>obtain⟨z,y,vs,r,ob,es,ep,e,c⟩:=x;exact⟨z,y,vs,r,ob,es,ep,k _ _ (.inl rfl) e,c⟩
 | dT kvs=>
  obtain⟨z,y,xs,r,ob,es,ep,e,c⟩:=x
  exact⟨z,y,xs,Paired.pO r fun p q z=>⟨z.1,ht _ _ z.2.1,z.2.2⟩,ob,es,ep,k _ _ (.inl rfl) e,c⟩
 | set S n=>obtain⟨ob,es,ep,t,e,c⟩:=x;exact⟨ob,es,ep,t,k _ _ (.inl rfl) e,c⟩
 | ins C dx fs=>
  obtain⟨d,z,ne,e,mA,⟨od,es,ep,e2,c⟩,r⟩:=x
  exact⟨ho _ d,z,ne,k _ _ (.inl rfl) e,mA,⟨od,es,ep,k _ _ (.inr d) e2,c⟩,r⟩
 | own y=>obtain⟨ob,e⟩:=x;exact⟨ob,k _ _ (.inl rfl) e⟩
 | xd fs=>obtain⟨mA,⟨od,es,ep,e,c⟩,r⟩:=x;exact⟨mA,⟨od,es,ep,k _ _ (.inl rfl) e,c⟩,r⟩
 | rng lo hi=>obtain⟨t,u,v,e⟩:=x;exact⟨t,u,v,k _ _ (.inl rfl) e⟩
 | frz ob u ih=>obtain⟨e,q⟩:=x;exact⟨k _ _ (.inl rfl) e,ih q⟩
 | tbl ps=>
  have e:h.get? a=some { cls:=.none,data:=.fields ps }:=x
  show h'.get? a=some { cls:=.none,data:=.fields ps }
  simp_all
 | met f y=>
  have e:h.get? a=some (RC (.ref f) (.ref y)):=x
  show h'.get? a=some (RC (.ref f) (.ref y))
  simp_all
 | ext φ=>obtain⟨p,⟨o,e⟩,st⟩:=x;exact⟨st _ _ p fun o q=>k _ _ (.inl rfl) q,⟨o,k _ _ (.inl rfl) e⟩,st⟩
theorem HOk.lt (x:HOk P w H h) (e:H a=some o):a<h.objs.size:=(x a o e).lt
theorem HOk.fresh (x:HOk P w H h) (e:h.objs.size<=a):H a=none:=by
 cases q:H a with
 | none=>rfl
 | some u=>exact absurd (NJ (x.lt q) e) (OD _)
theorem HOk.kept (x:HOk P w H h) (k:∀b u,h.get? b=some u->h'.get? b=some u):HOk P w H h':=fun a o e=>
 (x a o e).kW (fun b u _ q=>k b u q) (fun _ q=>q) fun _ _ q=>q
theorem HOk.laid (x:HOk P w H h) (k:∀b u,h.get? b=some u->h'.get? b=some u) (hp:h.objs.size<=a) (new:bK P w (upd H a o) h' a o):HOk P w (upd H a o) h':=fun b u e=>by
 have hn:=x.fresh hp
 by_cases hb:b=a
 ·subst hb;rw[bp] at e;simp_all
 ·rw[aQ hb] at e
  exact(x b u e).kW (fun c v _ q=>k c v q) (fun c q=>by rw[aQ (bF q hn)];exact q) fun c xs q=>by rw[aQ (bF q hn)];exact q
end
noncomputable def Rd (H:Hp) (a:Addr) (u:HO):Prop:=H a=some u\/∃o,H a=some (.frz o u)
theorem Rd.ok (r:Rd H a u) (x:HOk P w H h):bK P w H h a u:=by
 rcases r with r | ⟨o,r⟩
 ·exact x a u r
 ·obtain⟨_,q⟩:=x a _ r
  exact q
noncomputable def Mut:Option HO->Prop
 | some (.lst _)=>True
 | some (.dK _)=>True
 | some (.dT _)=>True
 | some (.set _ _)=>True
 | some (.ins _ _ _)=>True
 | some (.ext _)=>True
 | _=>False
section
variable {P:NC}{w:N4}{H:Hp}{h h':Heap}{x e:Addr}{o':HO}
theorem HOk.write (ok:HOk P w H h) (mu:Mut (H x)) (he:e=x\/H e=some (.own x)) (k:∀b u,b≠e->h.get? b=some u->h'.get? b=some u) (heo:∃u,h'.get? e=some u)
  (new:bK P w (upd H x o') h' x o'):HOk P w (upd H x o') h':=fun b u q=>by
 have nown:∀c y,H c=some (.own y)->c≠x:=fun c y r z=>by subst z;rw[r] at mu;exact mu
 have ntup:∀c xs,H c=some (.tup xs)->c≠x:=fun c xs r z=>by subst z;rw[r] at mu;exact mu
 by_cases hb:b=x
 ·subst hb;rw[bp] at q;simp_all
 ·rw[aQ hb] at q
  by_cases hbe:b=e
  ·have q':H b=some (.own x):=by
    simp_all
   rw[q] at q';cases q'
   obtain⟨v,hv⟩:=heo
   exact⟨v,by simp_all⟩
  ·refine(ok b u q).kW (fun c v hc r=>k c v ?_ r) (fun c r=>by rw[aQ (nown c b r)];exact r) fun c xs r=>by rw[aQ (ntup c xs r)];exact r
   grind
end
structure Un (fs ex:List Addr) (H H':Hp) (h h':Heap):Prop where
 keep:∀b o,h.get? b=some o->H b=none->b∉fs->b∉ex->h'.get? b=some o
 slot:∀b o,h.get? b=some o->H b=none->b∈fs->b∉ex->∃sl,h'.get? b=some { o with slots:=sl }
 free:∀b o,h.get? b=some o->H b=none->b∉ex->H' b=none
 there:∀b o,h.get? b=some o->b∉ex->∃o',h'.get? b=some o'
 j3:∀b xs,H b=some (.tup xs)->H' b=some (.tup xs)
 kL:∀b o u,H b=some (.frz o u)->H' b=some (.frz o u)
 my:∀b ps,H b=some (.tbl ps)->∃more,H' b=some (.tbl (ps++more))
section
variable {fs fs' ex ex':List Addr}{H H1 H2:Hp}{h h1 h2 h':Heap}{a x e:Addr}{o:HO}
theorem Un.any (u:Un fs ex H H1 h h1) (q:h.get? b=some ob) (n:H b=none) (hx:b∉ex):∃sl,h1.get? b=some { ob with slots:=sl }:=by
 by_cases hb:b∈fs
 ·exact u.slot b ob q n hb hx
 ·exact⟨ob.slots,u.keep b ob q n hb hx⟩
theorem Un.kept (k:∀b u,h.get? b=some u->h'.get? b=some u):Un fs ex H H h h':=
 ⟨fun b ob q _ _ _=>k b ob q,fun b ob q _ _ _=>⟨ob.slots,k b ob q⟩,fun _ _ _ n _=>n,fun b ob q _=>⟨ob,k b ob q⟩,fun _ _ q=>q,fun _ _ _ q=>q,fun _ ps q=>⟨#[],by grind⟩⟩
theorem Un.refl:Un fs ex H H h h:=Un.kept fun _ _ q=>q
theorem Un.laid (k:∀b u,h.get? b=some u->h'.get? b=some u) (hp:h.objs.size<=a) (hn:H a=none):Un fs ex H (upd H a o) h h' where
 keep:=fun b u q _ _ _=>k b u q
 slot:=fun b u q _ _ _=>⟨u.slots,k b u q⟩
 free:=fun b u q n _=>by rw[aQ (NA (NJ (Nh q) hp))];exact n
 there:=fun b u q _=>⟨u,k b u q⟩
 j3:=fun b xs q=>by rw[aQ (bF q hn)];exact q
 kL:=fun b u xs q=>by rw[aQ (bF q hn)];exact q
 my:=fun b ps q=>⟨#[],by rw[aQ (bF q hn),q];simp⟩
theorem Un.write (mu:Mut (H x)) (he:e=x\/H e=some (.own x)) (k:∀b u,b≠e->h.get? b=some u->h'.get? b=some u) (heo:∃u,h'.get? e=some u):Un fs ex H (upd H x o) h h':=by
 have hx:∀b,H b=none->b≠x:=fun b n z=>by subst z;rw[n] at mu;exact mu
 have hb:∀b,H b=none->b≠e:=fun b n z=>by
  simp_all
 have hm:∀b u,H b=some u->¬ Mut (some u)->b≠x:=fun b u q nm z=>by simp_all
 refine⟨fun b u q n _ _=>k b u (hb b n) q,fun b u q n _ _=>⟨u.slots,k b u (hb b n) q⟩,fun b u q n _=>by rw[aQ (hx b n)];exact n,fun b u q _=>?_,
  fun b xs q=>by rw[aQ (hm b _ q fun z=>z)];exact q,fun b u xs q=>by rw[aQ (hm b _ q fun z=>z)];exact q,fun b ps q=>⟨#[],by rw[aQ (hm b _ q fun z=>z),q];simp⟩⟩
 grind
end
noncomputable def trk (h:Heap) (H:Hp):List Addr:=(Nj h.objs.size).filter fun a=>(H a).isSome
noncomputable def o7 (h:Heap) (H:Hp):Heap:=PySem.W.hideAll h (trk h H)
theorem zE (h) (H):(o7 h H).objs.size=h.objs.size:=PySem.W.hideAll_size _ _
theorem Bc (e:h.get? b=some o) (n:H b=none):(o7 h H).get? b=some o:=
 PySem.W.hideAll_get _ e fun hm=>by
  have q:(H b).isSome=true:=(N0.mp hm).2
  simp_all
theorem C_ (e:(o7 h H).get? b=some o):h.get? b=some o/\H b=none:=by
 have e':h.get? b=some o:=PySem.W.of_hideAll (trk h H) e
 refine⟨e',?_⟩
 cases q:H b with
 | none=>rfl
 | some x=>
  have hm:b∈trk h H:=N0.mpr ⟨N7.mpr (Nh e'),by simp[q]⟩
  have z:(o7 h H).get? b=none:=PySem.W.hideAll_none (trk h H) hm
  simp_all
structure Mod (K:ab) (mg) (base):Prop where
 kin:K.In base
 glob:base.Ns mainGlobals mg
 blt:∃mb,base.Ns builtinsNs mb/\∀x:Str,x≠"__name__" -> mb x=bootBuiltins x
 nolimit:base.NoLimit
structure Cx where
 prog:NC
 w:N4
 K:ab
 mg:Str->Option Ng
 base:Heap
 A:N1
 N:List Str
 aD:Nk
 aK:Hp
 env:Env
 outer:List Env
 stack:List Env
 ex:List Addr
 fn:Str->Bool
 calm:Bool
 pn:List (Addr × Obj)
 xe:Ng->Nk->Prop
noncomputable def frs (l:List Env):List Addr:=l.filterMap (·.frame)
noncomputable abbrev Cx.fs (X:Cx):List Addr:=frs X.outer
noncomputable def Vis (sc:Rh) (x:Str):Prop:=sc.names.lookup x=some .local\/sc.names.lookup x=some .cell\/sc.names.lookup x=some .free
noncomputable def Loc (sc:Rh) (x:Str):Prop:=sc.names.lookup x=some .local\/sc.names.lookup x=some .cell
noncomputable def Look (env:Env) (h:Heap) (m:Str->Option Ng) (x:Str) (u:Ng):Prop:=
 (env.kindOf x=some .local/\m x=some u)\/((env.kindOf x=some .cell\/env.kindOf x=some .free)/\∃c,env.cells.lookup x=some c/\h.IsCell c (some u))
structure Cx.Ok (X:Cx):Prop where
 mod:Mod X.K X.mg X.base
 kind:X.env.scope.kind=.function
 glob:X.env.globals=mainGlobals
 blt:X.env.builtins=builtinsNs
 above:X.aD.heap.objs.size<=X.env.locals
 inj:∀x y c,X.env.cells.lookup x=some c->X.env.cells.lookup y=some c->x=y
 has:∀x,(X.env.kindOf x=some .cell\/X.env.kindOf x=some .free)->∃c,X.env.cells.lookup x=some c
 cab:∀x c,X.fn x=true->X.env.cells.lookup x=some c->X.aD.heap.objs.size<=c
 hd:X.calm=true->X.A.handled=none
 frames:X.A.frames=some X.stack
 stk:X.stack=X.outer\/(X.stack=X.env::X.outer/\X.env.frame=some X.env.locals)
 exf:∀b∈X.ex,b≠X.env.locals/\∀x c,X.env.cells.lookup x=some c->c≠b
 bs:∀b o,X.base.get? b=some o->X.aD.heap.get? b=some o/\X.aK b=none
 bsz:X.base.objs.size<=X.aD.heap.objs.size
 Ad:∀b o,X.base.get? b=some o->b∉X.ex
 Ee:∀b∈X.ex,b∉X.fs
 mK:X.aD.heap.FunFrames X.base X.outer
 frf:∀b∈X.fs,X.aK b=none
structure Inv (X:Cx) (pins) (σ:List (Option V)) (H) (s:Nk):Prop where
 ok:X.Ok
 os:s.os=X.aD.os
 bare:RP s.gens
 base:Un X.fs X.ex X.aK H X.aD.heap s.heap
 loc:∃m,s.heap.Ns X.env.locals m/\∀(i:Nat) x v , X.N[i]?=some x->σ[i]?=some (some v)->Vis X.env.scope x->∃u,RelV v u/\Look X.env s.heap m x u
 cell:∀x c,X.env.cells.lookup x=some c->∃v,s.heap.IsCell c v
 free:H X.env.locals=none
 gM:∀x c,X.env.cells.lookup x=some c->H c=none
 pin:∀p∈X.pn++pins,s.heap.get? p.1=some p.2/\H p.1=none/\p.1≠X.env.locals/\p.1∉X.fs/\∀v,p.2.data≠.cell v
 hok:HOk X.prog X.w H s.heap
 len:σ.length=X.N.length
section
variable {X:Cx}{pins:List (Addr × Obj)}{σ:List (Option V)}{H H':Hp}{s:Nk}{h':Heap}
theorem Cx.Ok.LB (ok:X.Ok) (e:X.base.get? b=some o):b∉X.fs:=fun hb=>by
 have:=(ok.mK.mem hb).1
 simp_all
theorem Inv.bs (I:Inv X pins σ H s):∀b o,X.base.get? b=some o->s.heap.get? b=some o/\H b=none:=fun b o e=>
 ⟨I.base.keep b o (I.ok.bs b o e).1 (I.ok.bs b o e).2 (I.ok.LB e) (I.ok.Ad b o e),I.base.free b o (I.ok.bs b o e).1 (I.ok.bs b o e).2 (I.ok.Ad b o e)⟩
theorem Inv.bk (I:Inv X pins σ H s):∀b o,X.base.get? b=some o->s.heap.get? b=some o:=fun b o e=>(I.bs b o e).1
theorem Inv.mod (I:Inv X pins σ H s):Mod X.K X.mg X.base:=I.ok.mod
theorem Inv.kIn (I:Inv X pins σ H s):X.K.In s.heap:=I.ok.mod.kin.keeps I.bk
theorem Inv.lt (I:Inv X pins σ H s):X.env.locals<s.heap.objs.size:=let ⟨_,hn,_⟩:=I.loc;hn.lt
theorem Inv.sz (I:Inv X pins σ H s):X.aD.heap.objs.size<=s.heap.objs.size:=NT I.ok.above (RQ I.lt)
theorem Inv.Ik (I:Inv X pins σ H s){a:Addr} (h:s.heap.objs.size<=a):a∉X.fs:=fun hb=>by
 obtain⟨_,o,ho,_⟩:=I.ok.mK.mem hb
 exact absurd (NJ (Nh ho) (NT I.sz h)) (OD _)
theorem Inv.cne (I:Inv X pins σ H s):∀x c,X.env.cells.lookup x=some c->c≠X.env.locals:=fun x c e z=>by
 obtain⟨v,o,ho,hd⟩:=I.cell x c e
 obtain⟨m,⟨o',es,ep,ho',hd',_⟩,_⟩:=I.loc
 simp_all
theorem Inv.mK (I:Inv X pins σ H s):s.heap.FunFrames X.base X.outer:=by
 have all:∀(l:List Env),(∀b∈frs l,b∈X.fs)->X.aD.heap.FunFrames X.base l->s.heap.FunFrames X.base l:=by
  intro l
  induction l with
  | nil=>intro _ _;trivial
  | cons env r ih=>
   intro hs hl
   obtain⟨hk,⟨L,o,hf,hn,ho,hd⟩,hr⟩:=hl
   have hL:L∈X.fs:=hs L (by unfold frs;simp_all)
   obtain⟨sl,e⟩:=I.base.slot L o ho (I.ok.frf L hL) hL fun z=>I.ok.Ee L z hL
   exact⟨hk,⟨L,_,hf,hn,e,hd⟩,ih (fun b hb=>hs b (by unfold frs;rw[List.filterMap_cons,hf];exact ox _ hb)) hr⟩
 exact all X.outer (fun _ hb=>hb) I.ok.mK
theorem Inv.stack (I:Inv X pins σ H s):s.heap.FunFrames X.base X.stack:=by
 rcases I.ok.stk with e | ⟨e,hf⟩
 ·rw[e];exact I.mK
 ·rw[e]
  obtain⟨m,hn,_⟩:=I.loc
  refine .cons (by rw[I.ok.kind];decide) hf hn ?_ I.mK
  exact Heap.get?_none_of_le (NT I.ok.bsz I.ok.above)
theorem Inv.k_ (I:Inv X pins σ H s):∀b∈frs X.stack,b∈X.env.locals::X.fs:=fun b hb=>by
 rcases I.ok.stk with e | ⟨e,hf⟩
 ·simp_all
 ·rw[e] at hb
  unfold frs at hb
  rw[List.filterMap_cons,hf] at hb
  exact hb
theorem Inv.sH (I:Inv X pins σ H s):∀b∈frs X.stack,H b=none:=fun b hb=>by
 rcases Nx.mp (I.k_ b hb) with e | hb
 ·rw[e];exact I.free
 ·obtain⟨_,o,ho,_⟩:=I.ok.mK.mem hb
  exact I.base.free b o ho (I.ok.frf b hb) fun z=>I.ok.Ee b z hb
theorem Inv.step {g':Array GenState}{t':Nat}{d':Drawn}{ch:List Addr} (I:Inv X pins σ H s)
  (hch:∀b∈ch,(b∈X.ex\/X.aD.heap.objs.size<=b)/\b≠X.env.locals/\(∀x c,X.env.cells.lookup x=some c->c≠b)/\∀p∈X.pn++pins,p.1≠b)
  (keep:∀b o,b≠X.env.locals->b∉X.fs->b∉ch->s.heap.get? b=some o->H b=none->h'.get? b=some o)
  (slot:∀b o,b≠X.env.locals->b∈X.fs->b∉ch->s.heap.get? b=some o->H b=none->∃sl,h'.get? b=some { o with slots:=sl }) (free:∀b o,b∉ch->s.heap.get? b=some o->H b=none->H' b=none)
  (there:∀b o,b∉ch->s.heap.get? b=some o->∃o',h'.get? b=some o')
  (j3:∀b xs,H b=some (.tup xs)->H' b=some (.tup xs)) (kL:∀b o u,H b=some (.frz o u)->H' b=some (.frz o u)) (my:∀b ps,H b=some (.tbl ps)->∃more,H' b=some (.tbl (ps++more)))
  (ns:∀m,s.heap.Ns X.env.locals m->h'.Ns X.env.locals m) (hok:HOk X.prog X.w H' h') (hg:RP g') :
  Inv X pins σ H' { s with heap:=h',gens:=g',drawn:=d',toks:=t' }:=by
 have neL:∀b o,X.aD.heap.get? b=some o->b≠X.env.locals:=fun b o e=>NA (NJ (Nh e) I.ok.above)
 have neC:∀b o,X.aD.heap.get? b=some o->b∉X.ex->b∉ch:=fun b o e hx hb=>by
  rcases(hch b hb).1 with z | z
  ·exact hx z
  ·exact absurd (NJ (Nh e) z) (OD _)
 have cellK:∀x c,X.env.cells.lookup x=some c->∀v,s.heap.IsCell c v->h'.IsCell c v:=fun x c e v ⟨o,ho,hd⟩=>by
  have nch:c∉ch:=fun z=>(hch c z).2.2.1 x c e rfl
  by_cases hc:c∈X.fs
  ·obtain⟨sl,q⟩:=slot c o (I.cne x c e) hc nch ho (I.gM x c e)
   exact⟨_,q,hd⟩
  ·exact⟨o,keep c o (I.cne x c e) hc nch ho (I.gM x c e),hd⟩
 refine⟨I.ok,I.os,hg,⟨fun b o e n hb hx=>?_,fun b o e n hb hx=>?_,fun b o e n hx=>?_,fun b o e hx=>?_,fun b xs e=>j3 b xs (I.base.j3 b xs e),fun b o xs e=>kL b o xs (I.base.kL b o xs e),fun b ps e=>?_⟩,?_,fun x c e=>?_,?_,fun x c e=>?_,fun p hp=>?_,hok,I.len⟩
 ·exact keep b o (neL b o e) hb (neC b o e hx) (I.base.keep b o e n hb hx) (I.base.free b o e n hx)
 ·obtain⟨sl,e1⟩:=I.base.slot b o e n hb hx
  obtain⟨sl',e2⟩:=slot b _ (neL b o e) hb (neC b o e hx) e1 (I.base.free b o e n hx)
  exact⟨sl',e2⟩
 ·obtain⟨o',e1⟩:=I.base.there b o e hx
  exact free b o' (neC b o e hx) e1 (I.base.free b o e n hx)
 ·obtain⟨o',e1⟩:=I.base.there b o e hx
  exact there b o' (neC b o e hx) e1
 ·obtain⟨m1,e1⟩:=I.base.my b ps e
  obtain⟨m2,e2⟩:=my b _ e1
  exact⟨m1++m2,by rw[e2,Rp]⟩
 ·obtain⟨m,hn,hl⟩:=I.loc
  refine⟨m,ns m hn,fun i x v e1 e2 e3=>?_⟩
  obtain⟨u,r,l⟩:=hl i x v e1 e2 e3
  refine⟨u,r,?_⟩
  rcases l with l | ⟨k,c,e,z⟩
  ·exact .inl l
  ·exact .inr ⟨k,c,e,cellK x c e _ z⟩
 ·obtain⟨v,z⟩:=I.cell x c e
  exact⟨v,cellK x c e v z⟩
 ·obtain⟨m,⟨o,_,_,ho,_⟩,_⟩:=I.loc
  exact free _ o (fun z=>(hch _ z).2.1 rfl) ho I.free
 ·obtain⟨v,o,ho,hd⟩:=I.cell x c e
  exact free c o (fun z=>(hch c z).2.2.1 x c e rfl) ho (I.gM x c e)
 ·obtain⟨e,n,ne,nf,d⟩:=I.pin p hp
  have nch:p.1∉ch:=fun z=>(hch p.1 z).2.2.2 p hp rfl
  exact⟨keep p.1 p.2 ne nf nch e n,free p.1 p.2 nch e n,ne,nf,d⟩
theorem Inv.un {t':Nat} (I:Inv X pins σ H s) (u:Un X.fs [] H H' s.heap h') (hok:HOk X.prog X.w H' h'):Inv X pins σ H' { s with heap:=h',toks:=t' }:=by
 obtain⟨m,⟨o,es,ep,ho,r⟩,_⟩:=id I.loc
 obtain⟨sl,hL⟩:=u.any ho I.free (by simp)
 exact I.step (g':=s.gens) (d':=s.drawn) (ch:=[]) (fun _ z=>nomatch z) (fun b o _ hb _ e n=>u.keep b o e n hb (by simp)) (fun b o _ hb _ e n=>u.slot b o e n hb (by simp)) (fun b o _ e n=>u.free b o e n (by simp)) (fun b o _ e=>u.there b o e (by simp)) u.j3 u.kL u.my (fun m' hm=>by
  obtain⟨o',es',ep',ho',r'⟩:=hm
  rw[ho] at ho';cases ho'
  exact⟨_,es',ep',hL,r'⟩) hok I.bare
theorem Inv.call (I:Inv X pins σ H s) (u:Un (frs X.stack) ch H H' s.heap h') (hok:HOk X.prog X.w H' h') (hg:RP g')
  (hch:∀b∈ch,(b∈X.ex\/X.aD.heap.objs.size<=b)/\b≠X.env.locals/\(∀x c,X.env.cells.lookup x=some c->c≠b)/\∀p∈X.pn++pins,p.1≠b) :
  Inv X pins σ H' { s with heap:=h',gens:=g',drawn:=d',toks:=t' }:=by
 obtain⟨m,⟨o,es,ep,ho,r⟩,_⟩:=id I.loc
 obtain⟨sl,hL⟩:=u.any ho I.free fun z=>(hch _ z).2.1 rfl
 exact I.step (ch:=ch) hch (fun b o hL hb hc e n=>u.keep b o e n (fun z=>(Nx.mp (I.k_ b z)).elim hL hb) hc) (fun b o _ _ hc e n=>u.any e n hc) (fun b o hc e n=>u.free b o e n hc) (fun b o hc e=>u.there b o e hc) u.j3 u.kL u.my (fun m' hm=>by
  obtain⟨o',es',ep',ho',r'⟩:=hm
  rw[ho] at ho';cases ho'
  exact⟨_,es',ep',hL,r'⟩) hok hg
theorem Inv.turned {t':Nat}{it:Addr} (I:Inv X pins σ H s) (k:∀b o,b≠it->s.heap.get? b=some o->h'.get? b=some o) (hn:H it=none) (hL:it≠X.env.locals)
  (h1:it∈X.ex\/X.aD.heap.objs.size<=it) (h2:∀x c,X.env.cells.lookup x=some c->c≠it) (h3:∀p∈X.pn++pins,p.1≠it):Inv X pins σ H { s with heap:=h',toks:=t' }:=by
 have nit:∀b u,H b=some u->b≠it:=fun b u e z=>by rw[z,hn] at e;cases e
 refine I.step (g':=s.gens) (d':=s.drawn) (ch:=[it]) (fun b hb=>?_) (fun b o _ _ hc e _=>k b o (fun z=>hc (by simp[z])) e) (fun b o _ _ hc e _=>⟨o.slots,k b o (fun z=>hc (by simp[z])) e⟩) (fun _ _ _ _ n=>n)
  (fun b o hc e=>⟨o,k b o (fun z=>hc (by simp[z])) e⟩) (fun _ _ e=>e) (fun _ _ _ e=>e) (fun b ps e=>⟨#[],by rw[e];simp⟩) (fun m hm=>?_) (fun b u e=>?_) I.bare
 ·have e:b=it:=by simpa using hb
  subst e
  exact⟨h1,hL,h2,h3⟩
 ·obtain⟨o,es,ep,ho,r⟩:=hm
  exact⟨o,es,ep,k _ o (Sd hL) ho,r⟩
 ·refine(I.hok b u e).kW (fun c v hc q=>k c v ?_ q) (fun _ q=>q) fun _ _ q=>q
  rcases hc with z | z
  ·rw[z];exact nit b u e
  ·exact nit c _ z
theorem Inv.tok (I:Inv X pins σ H s) (t):Inv X pins σ H { s with toks:=t }:=I.un (h':=s.heap) (t':=t) Un.refl I.hok
theorem Inv.kept (I:Inv X pins σ H s) (k:∀b u,s.heap.get? b=some u->h'.get? b=some u):Inv X pins σ H { s with heap:=h',toks:=t' }:=I.un (Un.kept k) (I.hok.kept k)
theorem Inv.laid {a:Addr} (I:Inv X pins σ H s) (k:∀b u,s.heap.get? b=some u->h'.get? b=some u) (hp:s.heap.objs.size<=a) (new:bK X.prog X.w (upd H a o) h' a o) :
  Inv X pins σ (upd H a o) { s with heap:=h',toks:=t' }:=I.un (Un.laid k hp (I.hok.fresh hp)) (I.hok.laid k hp new)
theorem Inv.write (I:Inv X pins σ H s) (mu:Mut (H x)) (he:e=x\/H e=some (.own x)) (k:∀b u,b≠e->s.heap.get? b=some u->h'.get? b=some u) (heo:∃u,h'.get? e=some u)
  (new:bK X.prog X.w (upd H x o) h' x o):Inv X pins σ (upd H x o) { s with heap:=h',toks:=t' }:=I.un (Un.write mu he k heo) (I.hok.write mu he k heo new)
theorem Inv.jW (I:Inv X pins σ H s) (h:∀p∈pins',s.heap.get? p.1=some p.2/\H p.1=none/\p.1≠X.env.locals/\p.1∉X.fs/\∀v,p.2.data≠.cell v):Inv X pins' σ H s:=
 ⟨I.ok,I.os,I.bare,I.base,I.loc,I.cell,I.free,I.gM,fun p hp=>(N9.mp hp).elim (fun z=>I.pin p (Q6 _ z)) (h p),I.hok,I.len⟩
theorem vN {N:List Str} (hN:N.Nodup){i j:Nat} (a:N[i]?=some x) (b:N[j]?=some x):i=j:=by
 obtain⟨h1,e1⟩:=NV.mp a
 obtain⟨h2,e2⟩:=NV.mp b
 exact(List.getElem_inj hN).mp (e1.trans e2.symm)
theorem zS {M:Model}{A:N1}{E:Ng->Nk->Prop}{i:Nat}{x:Str}{v:V}{u:Ng}{Q:Unit->Nk->Prop} (I:Inv X pins σ H s) (hN:X.N.Nodup) (hi:X.N[i]?=some x) (hx:Loc X.env.scope x) (r:RelV v u)
  (h:∀s',Inv X pins (σ.set i (some v)) H s'->(∃a,PF a s.heap s'.heap/\(a=X.env.locals\/X.env.cells.lookup x=some a))->Q () s') (hf:X.fn x=true\/X.env.scope.names.lookup x=some .local:=by first | exact .inl rfl | exact .inr rfl | assumption):wpAny M A (storeName X.env x u) Q E s:=by
 obtain⟨m,hn,hl⟩:=id I.loc
 have hcls:(X.env.scope.kind == .class || (X.env.scope.kind == .module&&X.env.locals != X.env.globals))=false:=by rw[I.ok.kind];rfl
 have hiσ:i<σ.length:=by rw[I.len];exact(NV.mp hi).1
 have cne:=I.cne
 have tracked:∀{a:Addr} {h':Heap},(∃o,s.heap.get? a=some o/\H a=none)->PF a s.heap h'->HOk X.prog X.w H h':=fun{a h'} ha hs b ob e=>by
  obtain⟨_,_,hfree⟩:=ha
  refine(I.hok b ob e).kW (fun c w' hc q=>(hs.2 c ?_).trans q) (fun _ q=>q) fun _ _ q=>q
  rintro rfl
  rcases hc with rfl | hc
  ·rw[hfree] at e;cases e
  ·rw[hfree] at hc;cases hc
 rcases hx with hk | hk
 ·refine wpAny_storeName_local hk hn (fun h' hn' hs=>?_) hcls
  obtain⟨oL,_,_,hoL,_⟩:=id hn
  refine h _ ⟨I.ok,I.os,I.bare,⟨fun b o e n hb hx=>?_,fun b o e n hb hx=>?_,I.base.free,fun b o e hx=>?_,I.base.j3,I.base.kL,I.base.my⟩,⟨_,hn',fun j y v' e1 e2 e3=>?_⟩,fun y c e=>?_,I.free,I.gM,fun p hp=>?_,tracked ⟨oL,hoL,I.free⟩ hs,by simpa using I.len⟩ ⟨_,hs,.inl rfl⟩
  ·exact(hs.2 b (NA (NJ (Nh e) I.ok.above))).trans (I.base.keep b o e n hb hx)
  ·obtain⟨sl,e1⟩:=I.base.slot b o e n hb hx
   exact⟨sl,(hs.2 b (NA (NJ (Nh e) I.ok.above))).trans e1⟩
  ·obtain⟨o',e1⟩:=I.base.there b o e hx
   exact⟨o',(hs.2 b (NA (NJ (Nh e) I.ok.above))).trans e1⟩
  ·by_cases hj:j=i
   ·subst hj
    rw[hi] at e1;cases e1
    rw[QB hiσ] at e2
    cases e2
    exact⟨u,r,.inl ⟨hk,by simp⟩⟩
   ·rw[List.getElem?_set_ne (Sd hj)] at e2
    obtain⟨u',r',q⟩:=hl j y v' e1 e2 e3
    refine⟨u',r',?_⟩
    rcases q with⟨k,e⟩ | ⟨k,c,e,z⟩
    ·refine .inl ⟨k,?_⟩
     have:y≠x:=fun e=>hj (vN hN e1 (e ▸ hi))
     simp[this,e]
    ·exact .inr ⟨k,c,e,z.sameBut hs (cne y c e)⟩
  ·obtain⟨w',z⟩:=I.cell y c e
   exact⟨w',z.sameBut hs (cne y c e)⟩
  ·obtain⟨e,n,ne,nf,d⟩:=I.pin p hp
   exact⟨(hs.2 p.1 ne).trans e,n,ne,nf,d⟩
 ·have hfn:X.fn x=true:=by
   rcases hf with z | z
   ·exact z
   ·rw[z] at hk;cases hk
  obtain⟨c,hc⟩:=I.ok.has x (.inl hk)
  obtain⟨w',z⟩:=I.cell x c hc
  refine wpAny_storeName_cell I.ok.kind hk hc z (fun h' hc' hs=>?_)
  obtain⟨oc,hoc,hocd⟩:=id z
  refine h { s with heap:=h' } ⟨I.ok,I.os,I.bare,⟨fun b o e n hb hx=>?_,fun b o e n hb hx=>?_,I.base.free,fun b o e hx=>?_,I.base.j3,I.base.kL,I.base.my⟩,⟨m,hn.sameBut hs (Sd (cne x c hc)),fun j y v' e1 e2 e3=>?_⟩,fun y c' e=>?_,I.free,I.gM,fun p hp=>?_,tracked ⟨oc,hoc,I.gM x c hc⟩ hs,by simpa using I.len⟩ ⟨c,hs,.inr hc⟩
  ·exact(hs.2 b (NA (NJ (Nh e) (I.ok.cab x c hfn hc)))).trans (I.base.keep b o e n hb hx)
  ·obtain⟨sl,e1⟩:=I.base.slot b o e n hb hx
   exact⟨sl,(hs.2 b (NA (NJ (Nh e) (I.ok.cab x c hfn hc)))).trans e1⟩
  ·obtain⟨o',e1⟩:=I.base.there b o e hx
   exact⟨o',(hs.2 b (NA (NJ (Nh e) (I.ok.cab x c hfn hc)))).trans e1⟩
  ·by_cases hj:j=i
   ·subst hj
    rw[hi] at e1;cases e1
    rw[QB hiσ] at e2
    cases e2
    exact⟨u,r,.inr ⟨.inl hk,c,hc,hc'⟩⟩
   ·rw[List.getElem?_set_ne (Sd hj)] at e2
    obtain⟨u',r',q⟩:=hl j y v' e1 e2 e3
    refine⟨u',r',?_⟩
    rcases q with q | ⟨k,c',e,z'⟩
    ·exact .inl q
    ·refine .inr ⟨k,c',e,z'.sameBut hs ?_⟩
     rintro rfl
     exact hj (vN hN e1 (I.ok.inj _ _ _ e hc ▸ hi))
  ·by_cases hcc:c'=c
   ·subst hcc;exact⟨_,hc'⟩
   ·obtain⟨w2,z2⟩:=I.cell y c' e
    exact⟨w2,z2.sameBut hs hcc⟩
  ·obtain⟨e,n,ne,nf,d⟩:=I.pin p hp
   refine⟨(hs.2 p.1 ?_).trans e,n,ne,nf,d⟩
   intro q
   rw[q,hoc] at e
   have q':oc=p.2:=N5 e
   exact d w' (by rw[<- q'];exact hocd)
theorem fP (I:Inv X pins σ H s) (hN:X.N.Nodup) (hi:X.N[i]?=some x) (hx:Loc X.env.scope x) (r:RelV v u)
  (h:∀s',Inv X pins (σ.set i (some v)) H s'->Q () s') (hf:X.fn x=true\/X.env.scope.names.lookup x=some .local:=by first | exact .inl rfl | exact .inr rfl | assumption):wpAny M A (storeName X.env x u) Q E s:=
 zS I hN hi hx r (fun s' I' _=>h s' I') hf
theorem Inv.uH (I:Inv X pins σ H s) (ho:s'.os=s.os) (u:Un (frs X.stack) ch H H' s.heap s'.heap) (hok:HOk X.prog X.w H' s'.heap) (hg:RP s'.gens)
  (hch:∀b∈ch,(b∈X.ex\/X.aD.heap.objs.size<=b)/\b≠X.env.locals/\(∀x c,X.env.cells.lookup x=some c->c≠b)/\∀p∈X.pn++pins,p.1≠b):Inv X pins σ H' s':=by
 obtain⟨h',g',d',t',o'⟩:=s'
 have e:o'=s.os:=ho
 subst e
 exact I.call (g':=g') (t':=t') (d':=d') u hok hg hch
end
noncomputable abbrev XK:=Ng->Option Addr->Hp->Prop
noncomputable abbrev St:=List (Option V)
noncomputable abbrev VK:=V->Hp->Prop
noncomputable abbrev TE:=St->Hp->VK->Prop
noncomputable abbrev TT:=St->Hp->(Bool->Hp->Prop)->Prop
noncomputable abbrev TA:=St->Hp->(List V->Hp->Prop)->Prop
structure Ends where
 nx:St->Hp->Prop
 rt:VK
 bk:St->Hp->Prop:=fun _ _=>False
 ct:St->Hp->Prop:=fun _ _=>False
noncomputable abbrev TS:=Ends->St->Hp->Prop
noncomputable def EP (X:Cx) (pins:List (Addr × Obj)) (σ:St) (Q:VK) (u:Ng) (s':Nk):Prop:=∃v H',Inv X pins σ H' s'/\RelV v u/\Q v H'
noncomputable def TP (X:Cx) (pins:List (Addr × Obj)) (σ:St) (Q:Bool->Hp->Prop) (b:Bool) (s':Nk):Prop:=∃H',Inv X pins σ H' s'/\Q b H'
noncomputable def AP (X:Cx) (pins:List (Addr × Obj)) (σ:St) (Q:List V->Hp->Prop) (us:List Ng) (s':Nk):Prop:=∃vs H',Inv X pins σ H' s'/\Vals vs us/\Q vs H'
noncomputable def SP (X:Cx) (pins:List (Addr × Obj)) (D:Ends) (f:Flow) (s':Nk):Prop:=
 match f with
 | .next=>∃σ' H',Inv X pins σ' H' s'/\D.nx σ' H'
 | .brk=>∃σ' H',Inv X pins σ' H' s'/\D.bk σ' H'
 | .cont=>∃σ' H',Inv X pins σ' H' s'/\D.ct σ' H'
 | .ret u=>∃v σ' H',Inv X pins σ' H' s'/\RelV v u/\D.rt v H'
noncomputable def PE (X:Cx) (e:Expr) (t:TE):Prop:=
 ∀pins s (σ:St) H Q , Inv X pins σ H s->t σ H Q->wpAny (model X.prog X.w) X.A (eval e X.env) (EP X pins σ Q) X.xe s
noncomputable def PT (X:Cx) (e:Expr) (t:TT):Prop:=
 ∀pins s (σ:St) H Q , Inv X pins σ H s->t σ H Q->wpAny (model X.prog X.w) X.A (isTrue e X.env (eval e X.env)) (TP X pins σ Q) X.xe s
noncomputable def PW (X:Cx) (e:Expr) (t:TT):Prop:=
 ∀whole pins s (σ:St) H Q , Inv X pins σ H s->t σ H Q->wpAny (model X.prog X.w) X.A (isTrue e X.env whole) (TP X pins σ Q) X.xe s
theorem PW.pt (h:PW X e t):PT X e t:=h _
noncomputable def PA (X:Cx) (es:List Expr) (t:TA):Prop:=
 ∀pos pins s (σ:St) H Q , Inv X pins σ H s->t σ H Q->wpAny (model X.prog X.w) X.A (spliced (backTo pos (starEach es X.env))) (AP X pins σ Q) X.xe s
noncomputable def PS (X:Cx) (st:Stmt) (t:TS):Prop:=
 ∀pins s (σ:St) H D , Inv X pins σ H s->t D σ H->wpAny (model X.prog X.w) X.A (exec st X.env) (SP X pins D) X.xe s
noncomputable def PSs (X:Cx) (st:List Stmt) (t:TS):Prop:=
 ∀pins s (σ:St) H D , Inv X pins σ H s->t D σ H->wpAny (model X.prog X.w) X.A (execs st X.env) (SP X pins D) X.xe s
theorem thn {M:Model}{A:N1}{E:Ng->Nk->Prop}{s:Nk} (h:wpAny M A t Q E s) (hQ:∀a s,Q a s->Q' a s):wpAny M A t Q' E s:=Ov h hQ fun _ _ x=>x
section
variable {X:Cx}
noncomputable def Li (i:Nat):TE:=fun σ H Q=>∃v,σ[i]?=some (some v)/\Q v H
noncomputable def tC (v:V):TE:=fun _ H Q=>Q v H
theorem FU {pos:Pos} (hN:X.N[i]?=some x) (hv:Vis X.env.scope x) (hd:(x == ("__debug__" : Str))=false:=by decide) (hcd:(x == ("__classdict__" : Str))=false:=by decide):PE X (.Name x pos) (Li i):=by
 intro pins s σ H Q I h
 obtain⟨v,e,h⟩:=h
 obtain⟨m,hn,hl⟩:=I.loc
 obtain⟨u,r,l⟩:=hl i x v hN e hv
 have fin:EP X pins σ Q u s:=⟨v,H,I,r,h⟩
 rcases l with⟨hk,hm⟩ | ⟨hk,c,hc,hcell⟩
 ·exact R3 (Q7 I.ok.kind hk hn hm fin) hd
 ·rcases hk with hk | hk
  ·exact R3 (wpAny_loadName_cell I.ok.kind hk hc hcell fin) hd
  ·exact R3 (wpAny_loadName_free I.ok.kind hk hc hcell fin hcd) hd
theorem FI:PE X (.Constant (.int i) j pos) (tC (.int i)):=fun _ _ _ H _ I h=>wpAny_Constant_int ⟨.int i,H,I.tok _,⟨_,rfl⟩,h⟩
theorem Jb:PE X (.Constant (.bool b) j pos) (tC (.bl b)):=fun _ _ _ H _ I h=>Constant_bool ⟨.bl b,H,I,rfl,h⟩
noncomputable def Gl (X:Cx) (x:Str):Prop:=X.env.kindOf x=some .globalImplicit
theorem yT {σ:St} (I:Inv X pins σ H s) (hg:Gl X x) (hm:X.mg x=some u) (h:Q u s)
  (hd:(x == ("__debug__" : Str))=false:=by decide):wpAny (model X.prog X.w) X.A (eval (.Name x pos) X.env) Q E s:=
 P7 I.ok.kind hg (Calls.loadGlobal_global (by rw[I.ok.glob];exact I.mod.glob.keeps I.bk) hm h) hd
theorem kI {E:Ng->Nk->Prop}{σ:St}{pos:Pos} (I:Inv X pins σ H s) (hg:Gl X x) (hm:X.mg x=none) (hv:bootBuiltins x=some u) (h:Q u s)
  (hn:x≠"__name__" := by decide) (hd:(x == ("__debug__" : Str))=false:=by decide):wpAny (model X.prog X.w) X.A (eval (.Name x pos) X.env) Q E s:=by
 obtain⟨mb,h1,h2⟩:=I.mod.blt
 exact P7 I.ok.kind hg (Calls.loadGlobal_builtin (by rw[I.ok.glob];exact I.mod.glob.keeps I.bk) hm (by rw[I.ok.blt];exact h1.keeps I.bk) ((h2 x hn).trans hv) h) hd
theorem El (hg:Gl X x) (hm:X.mg x=some u) (r:RelV v u) (hd:(x == ("__debug__" : Str))=false:=by decide):PE X (.Name x pos) (tC v):=
 fun _ _ _ H _ I h=>yT I hg hm ⟨v,H,I,r,h⟩ hd
theorem Eh {pos:Pos} (hg:Gl X x) (hm:X.mg x=none) (hv:bootBuiltins x=some u) (r:RelV v u) (hn:x≠"__name__" := by decide) (hd:(x == ("__debug__" : Str))=false:=by decide):PE X (.Name x pos) (tC v):=
 fun _ _ _ H _ I h=>kI I hg hm hv ⟨v,H,I,r,h⟩ hn hd
variable {a b:Expr}{ta tb:TE}{pos:Pos}
variable {tA tB':TT}{rest:List Expr}
noncomputable def K6 (t u:TT):TT:=fun σ H Q=>t σ H fun c H1=>if c=true then u σ H1 Q else Q false H1
noncomputable def tOr (t u:TT):TT:=fun σ H Q=>t σ H fun c H1=>if c=true then Q true H1 else u σ H1 Q
noncomputable def Ly (t:TT):TT:=fun σ H Q=>t σ H fun c H1=>Q (!c) H1
theorem pw_and1 (ha:PT X a tA):PW X (.BoolOp .And [a] pos) tA:=by
 intro wh pins s σ H Q I h
 refine isTrue_and (thn (ha pins s σ H Q I h) fun c s1 e=>?_)
 cases c with
 | true=>exact isTrue_and_nil e
 | false=>exact e
theorem pw_or1 (ha:PT X a tA):PW X (.BoolOp .Or [a] pos) tA:=by
 intro wh pins s σ H Q I h
 refine isTrue_or (thn (ha pins s σ H Q I h) fun c s1 e=>?_)
 cases c with
 | false=>exact isTrue_or_nil e
 | true=>exact e
theorem pw_and (ha:PT X a tA) (hb:PW X (.BoolOp .And (b::rest) pos) tB'):PW X (.BoolOp .And (a::b::rest) pos) (K6 tA tB'):=by
 intro wh pins s σ H Q I h
 refine isTrue_and (thn (ha pins s σ H _ I h) fun c s1 ⟨H1,I1,q1⟩=>?_)
 cases c with
 | true=>exact hb wh pins s1 σ H1 Q I1 q1
 | false=>assumption
theorem pw_or (ha:PT X a tA) (hb:PW X (.BoolOp .Or (b::rest) pos) tB'):PW X (.BoolOp .Or (a::b::rest) pos) (tOr tA tB'):=by
 intro wh pins s σ H Q I h
 refine isTrue_or (thn (ha pins s σ H _ I h) fun c s1 ⟨H1,I1,q1⟩=>?_)
 cases c with
 | true=>assumption
 | false=>exact hb wh pins s1 σ H1 Q I1 q1
theorem F_ (ha:PT X a tA):PT X (.UnaryOp .Not a pos) (Ly tA):=by
 intro pins s σ H Q I h
 exact isTrue_not (ha pins s σ H (fun c H1=>Q (!c) H1) I h)
noncomputable def Kq (ta tb:TE):TE:=fun σ H Q=>ta σ H fun x H1=>∃c,x=.bl c/\if c=true then tb σ H1 Q else Q (.bl false) H1
noncomputable def J5 (ta:TE):TE:=fun σ H Q=>ta σ H fun x H1=>∃c,x=.bl c/\Q (.bl (!c)) H1
theorem Ff (h:PE X a t):PE X (.BoolOp op [a] pos) t:=fun pins s σ H Q I hw=>BoolOp_one (h pins s σ H Q I hw)
theorem Gb (ha:PE X a ta) (hb:PE X (.BoolOp .And (b::rest) pos) tb):PE X (.BoolOp .And (a::b::rest) pos) (Kq ta tb):=by
 intro pins s σ H Q I h
 refine BoolOp_and (thn (ha pins s σ H _ I h) fun v s1 ⟨x,H1,I1,r1,q1⟩=>?_)
 obtain⟨c,rfl,q1⟩:=q1
 cases r1
 refine Pa ?_
 cases c with
 | true=>exact hb pins s1 σ H1 Q I1 q1
 | false=>exact⟨.bl false,H1,I1,rfl,q1⟩
theorem GX (ha:PE X a ta):PE X (.UnaryOp .Not a pos) (J5 ta):=by
 intro pins s σ H Q I h
 refine UnaryOp_ (thn (ha pins s σ H _ I h) fun v s1 ⟨x,H1,I1,r1,q1⟩=>?_)
 obtain⟨c,rfl,q1⟩:=q1
 cases r1
 exact not_of (Pa ⟨.bl (!c),H1,I1,rfl,q1⟩)
noncomputable def tIf (t:TT) (ta tb:TE):TE:=fun σ H Q=>t σ H fun c H1=>if c=true then ta σ H1 Q else tb σ H1 Q
theorem BM {c:Expr} (hc:PT X c tA) (ha:PE X a ta) (hb:PE X b tb):PE X (.IfExp c a b pos) (tIf tA ta tb):=by
 intro pins s σ H Q I h
 refine wpAny_IfExp (thn (hc pins s σ H _ I h) fun d s1 ⟨H1,I1,q1⟩=>?_)
 cases d with
 | true=>exact ha pins s1 σ H1 Q I1 q1
 | false=>exact hb pins s1 σ H1 Q I1 q1
end
noncomputable def SqL (K:ab) (H:Hp) (a:Addr) (xs:List V):Prop:=
 Rd H a (.lst xs) ∨
  ∃o its n,K.lookup a=some o/\o.cls=.type "list" /\ o.dict=none/\o.data=.seq its n/\its.size<=sizeLine/\Vals xs its.toList
noncomputable def SqT (K:ab) (H:Hp) (a:Addr) (xs:List V):Prop:=
 Rd H a (.tup xs) ∨
  ∃o its n,K.lookup a=some o/\o.cls=.type "tuple" /\ o.data=.seq its n/\its.size<=sizeLine/\Vals xs its.toList
noncomputable def LL:Ng->Option V
 | .none=>some .non
 | .bool b=>some (.bl b)
 | .int i _=>some (.int i)
 | .str x _=>some (.str x)
 | .bytes b _=>some (.byt b)
 | .float b _=>some (.flt b)
 | .ref a=>some (.ref a)
 | .type n=>some (.ty n)
 | _=>none
theorem RelV.abs (r:RelV x u):LL u=some x:=by
 cases x with
 | non=>cases r;rfl
 | bl _=>cases r;rfl
 | int _=>obtain⟨t,rfl⟩:=r;rfl
 | str _=>obtain⟨t,rfl⟩:=r;rfl
 | byt _=>obtain⟨t,rfl⟩:=r;rfl
 | flt _=>obtain⟨t,rfl⟩:=r;rfl
 | ref _=>cases r;rfl
 | ty _=>cases r;rfl
theorem RelV.inj (r:RelV x u) (q:RelV y u):x=y:=N5 (r.abs.symm.trans q.abs)
theorem Vals.inj:∀{xs ys:List V}{us:List Ng},Vals xs us->Vals ys us->xs=ys
 | _,_,_,.nil,.nil=>rfl
 | _,_,_,.cons r t,.cons r' t'=>by rw[r.inj r',Vals.inj t t']
section
variable {X:Cx}{pins:List (Addr × Obj)}{σ:St}{H:Hp}{s:Nk}{a:Addr}{xs ys:List V}
theorem SqL.of {K:ab} (h:H a=some (.lst xs)):SqL K H a xs:=.inl (.inl h)
theorem SqT.of {K:ab} (h:H a=some (.tup xs)):SqT K H a xs:=.inl (.inl h)
theorem Inv.list (I:Inv X pins σ H s) (h:SqL X.K H a xs):∃its:List Ng,Vals xs its/\PlainL s.heap a its.toArray/\xs.length<=sizeLine:=by
 rcases h with h | ⟨o,its,n,hk,hc,hd,hs,hz,r⟩
 ·obtain⟨z,its,n,r,e⟩:=h.ok I.hok
  exact⟨its,r,⟨_,n,e,rfl,rfl,rfl⟩,z⟩
 ·refine⟨its.toList,r,⟨o,n,I.kIn a o hk,hc,hd,by omega⟩,?_⟩
  have e:=r.length
  simp_all
theorem Inv.tuple (I:Inv X pins σ H s) (h:SqT X.K H a xs):∃its:List Ng,Vals xs its/\Ti s.heap a its.toArray/\xs.length<=sizeLine:=by
 rcases h with h | ⟨o,its,n,hk,hc,hs,hz,r⟩
 ·obtain⟨z,its,r,p⟩:=h.ok I.hok
  exact⟨its,r,p.tup,z⟩
 ·refine⟨its.toList,r,⟨o,I.kIn a o hk,hc,n,by omega⟩,?_⟩
  have e:=r.length
  simp_all
theorem Inv.ow (I:Inv X pins σ H s) (h:SqL X.K H a xs) (h':SqL X.K H a ys):xs=ys:=by
 obtain⟨its,r,⟨o,n,e,_,_,d⟩,_⟩:=I.list h
 obtain⟨its',r',⟨o',n',e',_,_,d'⟩,_⟩:=I.list h'
 rw[e] at e';cases e'
 rw[d] at d'
 injection d' with d1 _
 have:its=its':=by simp_all
 subst this
 exact r.inj r'
theorem Inv.kQ (I:Inv X pins σ H s) (h:SqT X.K H a xs) (h':SqT X.K H a ys):xs=ys:=by
 obtain⟨its,r,⟨o,e,_,n,d⟩,_⟩:=I.tuple h
 obtain⟨its',r',⟨o',e',_,n',d'⟩,_⟩:=I.tuple h'
 rw[e] at e';cases e'
 rw[d] at d'
 injection d' with d1 _
 have:its=its':=by simp_all
 subst this
 exact r.inj r'
end
noncomputable abbrev Cx.qe (X:Cx) (E:Ng->Nk->Prop):Cx:={ X with xe:=E }
noncomputable abbrev Cx.nox (X:Cx):Cx:=X.qe fun _ _=>False
theorem Cx.Ok.qe {X:Cx} (ok:X.Ok) (E):(X.qe E).Ok:=
 ⟨ok.mod,ok.kind,ok.glob,ok.blt,ok.above,ok.inj,ok.has,ok.cab,ok.hd,ok.frames,ok.stk,ok.exf,ok.bs,ok.bsz,ok.Ad,ok.Ee,ok.mK,ok.frf⟩
theorem Cx.Ok.iE {X:Cx} (ok:(X.qe E).Ok):X.Ok:=
 ⟨ok.mod,ok.kind,ok.glob,ok.blt,ok.above,ok.inj,ok.has,ok.cab,ok.hd,ok.frames,ok.stk,ok.exf,ok.bs,ok.bsz,ok.Ad,ok.Ee,ok.mK,ok.frf⟩
section
variable {X:Cx}{pins:List (Addr × Obj)}{σ:St}{H:Hp}{s:Nk}{E:Ng->Nk->Prop}
theorem Inv.qe (I:Inv X pins σ H s) (E):Inv (X.qe E) pins σ H s:=⟨I.ok.qe E,I.os,I.bare,I.base,I.loc,I.cell,I.free,I.gM,I.pin,I.hok,I.len⟩
theorem Inv.iE (I:Inv (X.qe E) pins σ H s):Inv X pins σ H s:=⟨I.ok.iE,I.os,I.bare,I.base,I.loc,I.cell,I.free,I.gM,I.pin,I.hok,I.len⟩
theorem SP.iE (h:SP (X.qe E) pins D f s'):SP X pins D f s':=by
 cases f with
 | next=>obtain⟨σ',H',I,q⟩:=h;exact⟨σ',H',I.iE,q⟩
 | brk=>obtain⟨σ',H',I,q⟩:=h;exact⟨σ',H',I.iE,q⟩
 | cont=>obtain⟨σ',H',I,q⟩:=h;exact⟨σ',H',I.iE,q⟩
 | ret u=>obtain⟨v,σ',H',I,r,q⟩:=h;exact⟨v,σ',H',I.iE,r,q⟩
theorem PSs.nox {st:List Stmt} (h:PSs X.nox st t):PSs X st t:=fun pins s σ H D I hw=>
 Ov (h pins s σ H D (I.qe _) hw) (fun _ _ q=>q.iE) fun _ _ z=>Rc z
end
section
variable {X:Cx}{st:Stmt}{rest:List Stmt}{t u:TS}{e:Expr}{te:TE}{pos:Pos}
noncomputable def J7:TS:=fun D σ H=>D.nx σ H
noncomputable def L4 (t u:TS):TS:=fun D σ H=>t { D with nx:=u D } σ H
theorem CH:PSs X [] J7:=fun _ _ σ H _ I h=>Ri ⟨σ,H,I,h⟩
theorem Bx (h1:PS X st t) (h2:PSs X rest u):PSs X (st::rest) (L4 t u):=by
 intro pins s σ H D I h
 refine wpAny_execs_cons (thn (h1 pins s σ H { D with nx:=u D } I h) fun f s1 q=>?_)
 cases f with
 | next=>
  obtain⟨σ',H',I',q⟩:=q
  exact h2 pins s1 σ' H' D I' q
 | ret v=>exact q
 | brk=>exact q
 | cont=>exact q
theorem Dv (h1:PS X st t):PSs X [st] t:=by
 intro pins s σ H D I h
 refine wpAny_execs_cons (thn (h1 pins s σ H D I h) fun f s1 q=>?_)
 cases f with
 | next=>exact Ri q
 | ret v=>exact q
 | brk=>exact q
 | cont=>exact q
theorem Inv.quiet {pins:List (Addr × Obj)}{σ:St}{H:Hp}{s:Nk} (I:Inv X pins σ H s):interactive X.env=false:=by simp[interactive,I.ok.kind]
noncomputable def Ir (te:TE):TS:=fun D σ H=>te σ H fun _ H1=>D.nx σ H1
theorem C2 (he:PE X e te) (hs:swapsWith e none pos.line X.env=pure false:=by rfl):PS X (.Expr e pos) (Ir te):=by
 intro pins s σ H D I h
 exact wpAny_Expr_any (thn (he pins s σ H _ I h) fun v s1 ⟨x,H1,I1,r1,q1⟩=>⟨σ,H1,I1,q1⟩) I.quiet hs
noncomputable def L5 (te:TE):TS:=fun D σ H=>te σ H D.rt
theorem F8 (he:PE X e te):PS X (.Return (some e) pos) (L5 te):=by
 intro pins s σ H D I h
 exact wpAny_Return_some (thn (he pins s σ H _ I h) fun v s1 ⟨x,H1,I1,r1,q1⟩=>⟨x,σ,H1,I1,r1,q1⟩)
noncomputable def LU (c:TT) (t u:TS):TS:=fun D σ H=>c σ H fun b H1=>if b=true then t D σ H1 else u D σ H1
theorem JT {c:Expr}{a b:List Stmt}{tc:TT} (hc:PT X c tc) (ha:PSs X a t) (hb:PSs X b u):PS X (.If c a b pos) (LU tc t u):=by
 intro pins s σ H D I h
 refine wpAny_If (thn (hc pins s σ H _ I h) fun d s1 ⟨H1,I1,q1⟩=>?_)
 cases d with
 | true=>exact ha pins s1 σ H1 D I1 q1
 | false=>exact hb pins s1 σ H1 D I1 q1
noncomputable def HJ:TS:=fun _ _ _=>False
theorem fM:PS X st HJ:=fun _ _ _ _ _ _ h=>h.elim
end
noncomputable abbrev TG:=V->St->Hp->(St->Hp->Prop)->Prop
noncomputable abbrev TGs:=List V->St->Hp->(St->Hp->Prop)->Prop
noncomputable def PG (X:Cx) (target:Expr) (t:TG):Prop:=
 ∀pins s (σ:St) H v u Q , Inv X pins σ H s->RelV v u->t v σ H Q →
  wpAny (model X.prog X.w) X.A (assign target X.env u) (fun _ s'=>∃σ' H',Inv X pins σ' H' s'/\Q σ' H') X.xe s
noncomputable def PGs (X:Cx) (ts:List Expr) (t:TGs):Prop:=
 ∀pins s (σ:St) H vs us Q , Inv X pins σ H s->Vals vs us->t vs σ H Q →
  wpAny (model X.prog X.w) X.A (assignInOrder ((assignEach ts X.env).map (·.2)) us) (fun _ s'=>∃σ' H',Inv X pins σ' H' s'/\Q σ' H') X.xe s
noncomputable abbrev xA:=V->V->V->Hp->(Hp->Prop)->Prop
noncomputable def CY (X:Cx) (t:xA):Prop:=
 ∀pins s (σ:St) H o i v ov iv u Q , Inv X pins σ H s->RelV o ov->RelV i iv->RelV v u->t o i v H Q →
  wpAny (model X.prog X.w) X.A (setItem ov iv u) (fun _ s'=>∃H',Inv X pins σ H' s'/\Q H') X.xe s
noncomputable abbrev TIp:=V->V->Hp->VK->Prop
noncomputable def PIp (X:Cx) (op:S_) (t:TIp):Prop:=
 ∀pins s (σ:St) H x y v u Q , Inv X pins σ H s->RelV x v->RelV y u->t x y H Q →
  wpAny (model X.prog X.w) X.A (inplaceOp op v u) (EP X pins σ Q) X.xe s
section
variable {X:Cx}{pos:Pos}
noncomputable def iz (i:Nat):TG:=fun v σ H Q=>Q (σ.set i (some v)) H
theorem ir (hN:X.N.Nodup) (hi:X.N[i]?=some x) (hx:Loc X.env.scope x) (hf:X.fn x=true\/X.env.scope.names.lookup x=some .local:=by first | exact .inl rfl | exact .inr rfl | assumption):PG X (.Name x pos) (iz i):=by
 intro pins s σ H v u Q I r h
 exact RD (fP I hN hi hx r (fun s' I'=>⟨_,H,I',h⟩) hf)
noncomputable def JV:TGs:=fun vs σ H Q=>vs=[]/\Q σ H
noncomputable def AL (t:TG) (u:TGs):TGs:=fun vs σ H Q=>∃v r,vs=v::r/\t v σ H fun σ' H'=>u r σ' H' Q
theorem km:PGs X [] JV:=by
 intro pins s σ H vs us Q I r h
 obtain⟨e,h⟩:=h
 subst e
 cases r
 exact assignInOrder_nil ⟨σ,H,I,h⟩
theorem dn {e:Expr}{es:List Expr}{t:TG}{u:TGs} (h1:PG X e t) (h2:PGs X es u)
  (hs:(assignEach (e::es) X.env).map (·.2)=assign e X.env::(assignEach es X.env).map (·.2):=by rfl):PGs X (e::es) (AL t u):=by
 intro pins s σ H vs us Q I r h
 obtain⟨v,vr,e1,h⟩:=h
 subst e1
 cases r with
 | cons r rr=>
  rw[hs]
  refine Rq (thn (h1 pins s σ H _ _ _ I r h) fun _ s1 ⟨σ1,H1,I1,q1⟩=>?_)
  exact h2 pins s1 σ1 H1 _ _ Q I1 rr q1
noncomputable def Ja (K:ab) (n:Nat) (t:TGs):TG:=fun v σ H Q=>∃a xs,v=.ref a/\SqT K H a xs/\xs.length=n/\t xs σ H Q
theorem oq {k:Nat} (hc:X.calm=true) (h:PGs X es t)
  (hn:(assignEach es X.env).length=n:=by rfl) (hst:(assignEach es X.env).findIdx? (·.1)=none:=by rfl):PG X (.Tuple es k pos) (Ja X.K n t):=by
 intro pins s σ H v u Q I r hw
 obtain⟨a,xs,e1,hq,hl,hw⟩:=hw
 subst e1
 cases r
 obtain⟨its,rv,ht,hz⟩:=I.tuple hq
 refine assign_Tuple_tuple (I.ok.hd hc) ht (by simp[hn,<- hl,rv.length]) hst fun h' hx=>?_
 have I1:Inv X pins σ H { s with heap:=h' }:=I.kept (t':=s.toks) fun b o e=>hx b o (NA (Nh e)) e
 exact h pins _ σ H xs _ Q I1 (by lia) hw
noncomputable def La (to ti:TE) (t:xA):TG:=fun v σ H Q=>to σ H fun o H1=>ti σ H1 fun i H2=>t o i v H2 fun H3=>Q σ H3
theorem Fv {o i:Expr}{to ti:TE}{t:xA} (ho:PE X o to) (hi:PE X i ti) (hs:CY X t)
  (ha:∀v,assign (.Subscript o i pos) X.env v=(do
   let ov ← holding [v] (eval o X.env)
   let iv ← holding [v,ov] (eval i X.env)
   standAt pos
   holding [v,ov,iv] (setItem ov iv v)
   release [v,ov,iv] []):=by intro _;rfl):PG X (.Subscript o i pos) (La to ti t):=by
 intro pins s σ H v u Q I r h
 rw[ha]
 refine gV (Oe (thn (ho pins s σ H _ I h) fun ov s1 ⟨x,H1,I1,r1,q1⟩=>?_))
 refine gV (Oe (thn (hi pins s1 σ H1 _ I1 q1) fun iv s2 ⟨y,H2,I2,r2,q2⟩=>?_))
 refine gV (Pk (gV (Oe (thn (hs pins s2 σ H2 x y v ov iv u _ I2 r1 r2 r q2) fun _ s3 ⟨H3,I3,q3⟩=>?_))))
 exact wpAny_release ⟨σ,H3,I3,q3⟩
noncomputable def CJ (te:TE) (g:TG):TS:=fun D σ H=>te σ H fun x H1=>g x σ H1 D.nx
theorem AI {tg e:Expr}{te:TE}{g:TG} (he:PE X e te) (hg:PG X tg g) (hs:swapsWithSole [tg] e pos.line X.env=pure false:=by rfl) (hw:swappedStores [tg] e X.env=pure none:=by rfl)
  (h1:(assignEach [tg] X.env).map (·.2)=[assign tg X.env]:=by rfl):PS X (.Assign [tg] e pos) (CJ te g):=by
 intro pins s σ H D I h
 refine wpAny_Assign_stores (thn (he pins s σ H _ I h) fun v s1 ⟨x,H1,I1,r1,q1⟩=>?_) hs hw
 rw[h1]
 exact thn (hg pins s1 σ H1 x v _ I1 r1 q1) fun _ s2 q=>q
theorem GU {i:Nat}{x:Str}{e:Expr}{te:TE}{pos':Pos} (hN:X.N.Nodup) (hi:X.N[i]?=some x) (hx:Loc X.env.scope x) (he:PE X e te) (hs:swapsWith e (some (.Name x pos')) pos.line X.env=pure false:=by rfl) (hf:X.fn x=true\/X.env.scope.names.lookup x=some .local:=by first | exact .inl rfl | exact .inr rfl | assumption) :
  PS X (.Assign [.Name x pos'] e pos) (CJ te (iz i)):=by
 intro pins s σ H D I h
 refine wpAny_Assign_Name (thn (he pins s σ H _ I h) fun v s1 ⟨y,H1,I1,r1,q1⟩=>?_) hs
 exact fP I1 hN hi hx r1 (fun s2 I2=>⟨_,H1,I2,q1⟩) hf
noncomputable def Lc (i j:Nat) (ta:TA):TS:=fun D σ H=>ta σ H fun vs H1=>∃v w,vs=[v,w]/\D.nx ((σ.set i (some v)).set j (some w)) H1
theorem Fz {i j:Nat}{x y:Str}{a b:Expr}{ta:TA}{px py pt:Pos}{kt k2 pt2} (hc:X.calm=true) (hN:X.N.Nodup) (hi:X.N[i]?=some x) (hj:X.N[j]?=some y) (hij:i≠j)
  (hx:X.env.scope.names.lookup x=some .local) (hy:X.env.scope.names.lookup y=some .local) (ha:PA X [a,b] ta)
  (hw:swappedStores [.Tuple [.Name x px,.Name y py] kt pt] (.Tuple [a,b] k2 pt2) X.env=pure (some [x,y]))
  (hs:swapsWithSole [.Tuple [.Name x px,.Name y py] kt pt] (.Tuple [a,b] k2 pt2) pos.line X.env=pure false:=by rfl) :
  PS X (.Assign [.Tuple [.Name x px,.Name y py] kt pt] (.Tuple [a,b] k2 pt2) pos) (Lc i j ta):=by
 intro pins s σ H D I h
 rw[exec_Assign_arm]
 refine gV (Pk ?_)
 rw[hs]
 refine gV (k5 ?_)
 rw[if_neg (by decide)]
 refine gV (Tuple_ (thn (ha _ pins s σ H _ I h) fun us s1 ⟨vs,H1,I1,r1,q1⟩=>?_))
 obtain⟨v,w,e1,q1⟩:=q1
 subst e1
 obtain⟨u1,u2,rfl,rv,rw'⟩:∃u1 u2,us=[u1,u2]/\RelV v u1/\RelV w u2:=by
  cases r1 with
  | cons p q=>
   cases q with
   | cons p' q'=>
    cases q'
    grind
 refine N_ ?_ (by show 2<=sizeLine;decide)
 have I2:Inv X pins σ H1 { s1 with heap:=s1.heap.push { cls:=.type "tuple", data:=.seq [u1,u2].toArray } }:=I1.kept (t':=s1.toks) fun b o e=>k3 _ e
 rw[hw]
 refine gV (k5 ?_)
 show wpAny (model X.prog X.w) X.A (do rule "assign.swapped-stores"; let items ← unpackItems (.ref s1.heap.objs.size) 2 none;assignInOrder [fun v=>bindName X.env y v,fun v=>bindName X.env x v] items.reverse;pure Flow.next) _ _ _
 refine gV (R4 (gV (unpackItems_tuple (items:=#[u1,u2]) (I.ok.hd hc) (Ti.new s1.heap _) fun h' hx'=>?_)))
 have I3:=I2.kept (h':=h') (t':=s1.toks) fun b o e=>hx' b o (NA (Nh e)) e
 show wpAny _ _ (assignInOrder [fun v=>bindName X.env y v,fun v=>bindName X.env x v] [u2,u1] >>= fun _=>pure Flow.next) _ _ _
 refine gV (Rq (wpAny_bindName (fP I3 hN hj (.inl hy) rw' (fun s2 I4=>?_) (.inr hy))))
 refine Rq (wpAny_bindName (fP I4 hN hi (.inl hx) rv (fun s3 I5=>assignInOrder_nil (k5 ?_)) (.inr hx)))
 rw[List.set_comm _ _ (Sd hij)] at I5
 exact⟨_,H1,I5,q1⟩
noncomputable def Lg (i:Nat) (te:TE) (ti:TIp):TS:=fun D σ H=>∃x,σ[i]?=some (some x)/\te σ H fun y H1=>ti x y H1 fun z H2=>D.nx (σ.set i (some z)) H2
theorem Hj {i:Nat}{x:Str}{e:Expr}{te:TE}{op:S_}{ti:TIp}{pos':Pos} (hN:X.N.Nodup) (hi:X.N[i]?=some x) (hx:Loc X.env.scope x) (he:PE X e te) (ho:PIp X op ti) (hf:X.fn x=true\/X.env.scope.names.lookup x=some .local:=by first | exact .inl rfl | exact .inr rfl | assumption) :
  PS X (.AugAssign (.Name x pos') op e pos) (Lg i te ti):=by
 intro pins s σ H D I h
 obtain⟨v,e1,h⟩:=h
 obtain⟨m,hn,hl⟩:=I.loc
 have vis:Vis X.env.scope x:=by rcases hx with k | k;exact .inl k;exact .inr (.inl k)
 obtain⟨u,r,l⟩:=hl i x v hi e1 vis
 refine wpAny_AugAssign_Name ?_
 have go:wpAny (model X.prog X.w) X.A (eval e X.env) (fun w s₂=>wpAny (model X.prog X.w) X.A (inplaceOp op u w) (fun r s₃=>wpAny (model X.prog X.w) X.A (storeName X.env x r) (fun _=>SP X pins D .next) X.xe s₃) X.xe s₂) X.xe s:=by
  refine thn (he pins s σ H _ I h) fun w s1 ⟨y,H1,I1,r1,q1⟩=>?_
  refine thn (ho pins s1 σ H1 v y u w _ I1 r r1 q1) fun z s2 ⟨zv,H2,I2,r2,q2⟩=>?_
  exact fP I2 hN hi hx r2 (fun s3 I3=>⟨_,H2,I3,q2⟩) hf
 rcases l with⟨hk,hm⟩ | ⟨hk,c,hc,hcell⟩
 ·exact Q7 I.ok.kind hk hn hm go
 ·rcases hk with hk | hk
  ·exact wpAny_loadName_cell I.ok.kind hk hc hcell go
  ·rcases hx with k | k
   ·have:X.env.scope.names.lookup x=some .free:=hk
    simp_all
   ·have:X.env.scope.names.lookup x=some .free:=hk
    simp_all
noncomputable def IH (to ti te:TE) (tget:V->V->Hp->VK->Prop) (tip:TIp) (tset:xA):TS:=fun D σ H=>to σ H fun o H1=>ti σ H1 fun i H2=>tget o i H2 fun x H3=>te σ H3 fun y H4=>tip x y H4 fun z H5=>tset o i z H5 fun H6=>D.nx σ H6
noncomputable def Ka (X:Cx) (t:V->V->Hp->VK->Prop):Prop:=
 ∀pins s (σ:St) H o i ov iv Q , Inv X pins σ H s->RelV o ov->RelV i iv->t o i H Q →
  wpAny (model X.prog X.w) X.A (getItem ov iv) (EP X pins σ Q) X.xe s
theorem CS {o i e:Expr}{to ti te:TE}{tget:V->V->Hp->VK->Prop}{tip:TIp}{tset:xA}{op:S_}{tpos:Pos} (ho:PE X o to) (hi:PE X i ti) (hg:Ka X tget) (he:PE X e te) (hp:PIp X op tip) (hs:CY X tset)
  (ha:∀ov iv new,augStore i ov iv new=(do holding [new,ov,iv] (setItem ov iv new);release [new,ov,iv] [];pure .next):=by intros;rfl):PS X (.AugAssign (.Subscript o i tpos) op e pos) (IH to ti te tget tip tset):=by
 intro pins s σ H D I h
 refine wpAny_AugAssign_SubscriptAny (thn (ho pins s σ H _ I h) fun ov s1 ⟨x1,H1,I1,r1,q1⟩=>?_) ha
 refine thn (hi pins s1 σ H1 _ I1 q1) fun iv s2 ⟨x2,H2,I2,r2,q2⟩=>?_
 refine thn (hg pins s2 σ H2 x1 x2 ov iv _ I2 r1 r2 q2) fun old s3 ⟨x3,H3,I3,r3,q3⟩=>?_
 refine thn (he pins s3 σ H3 _ I3 q3) fun v s4 ⟨x4,H4,I4,r4,q4⟩=>?_
 refine thn (hp pins s4 σ H4 x3 x4 old v _ I4 r3 r4 q4) fun new s5 ⟨x5,H5,I5,r5,q5⟩=>?_
 exact thn (hs pins s5 σ H5 x1 x2 x5 ov iv new _ I5 r1 r2 r5 q5) fun _ s6 ⟨H6,I6,q6⟩=>⟨σ,H6,I6,q6⟩
noncomputable def ipI (f:Int->Int->Int):TIp:=fun x y H Q=>∃i j,x=.int i/\y=.int j/\Q (.int (f i j)) H
theorem FP:PIp X .Add (ipI fun i j=>i+j):=by
 intro pins s σ H x y v u Q I r1 r2 h
 obtain⟨i,j,e1,e2,q⟩:=h
 subst e1;subst e2
 obtain⟨t,rfl⟩:=r1
 obtain⟨t',rfl⟩:=r2
 exact iadd_int ⟨.int _,H,I.tok _,⟨_,rfl⟩,q⟩
end
section
variable {X:Cx}{pos:Pos}
noncomputable def Gr (c:TT) (tb:TS):TS:=fun D σ H=>∃W:Nat->St->Hp->Prop,(∃m,W m σ H)/\∀m σ H,W m σ H →
 c σ H fun b H1=>if b=true then ∃N:St->Hp->Prop,(∀σ' H',N σ' H'->∃m',m'<m/\W m' σ' H')/\tb { D with nx:=N,ct:=N,bk:=D.nx } σ H1 else D.nx σ H1
theorem BC {c:Expr}{body:List Stmt}{tc:TT}{tb:TS} (hp:SG (model X.prog X.w) X.A X.env X.xe) (hc:PT X c tc) (hb:PSs X body tb):PS X (.While c body [] pos) (Gr tc tb):=by
 intro pins s σ H D I h
 obtain⟨W,⟨m0,w0⟩,turn⟩:=h
 refine wpAny_While (codeAny_whileLoop (fun n s'=>∃σ' H',Inv X pins σ' H' s'/\W n σ' H') ?_ m0 ⟨σ,H,I,w0⟩)
 rintro n s1 ⟨σ1,H1,I1,w1⟩
 refine Pt hp (thn (hc pins s1 σ1 H1 _ I1 (turn n σ1 H1 w1)) fun b s2 ⟨H2,I2,q2⟩=>?_)
 cases b with
 | true=>
  obtain⟨N,hN,q2⟩:=q2
  rw[if_pos rfl]
  refine Pt hp (thn (hb pins s2 σ1 H2 _ I2 q2) fun f s3 q3=>?_)
  cases f with
  | next=>
   obtain⟨σ3,H3,I3,n3⟩:=q3
   obtain⟨m',hm,w3⟩:=hN σ3 H3 n3
   exact⟨m',hm,σ3,H3,I3,w3⟩
  | cont=>
   obtain⟨σ3,H3,I3,n3⟩:=q3
   obtain⟨m',hm,w3⟩:=hN σ3 H3 n3
   exact⟨m',hm,σ3,H3,I3,w3⟩
  | brk=>exact q3
  | ret v=>exact q3
 | false=>
  rw[if_neg NK]
  exact Ri ⟨σ1,H2,I2,q2⟩
end
structure It where
 go:Nat->Hp->Prop
 yld:Nat->Hp->V->Hp->Prop
 stop:Nat->Hp->Prop
noncomputable def mj (X:Cx) (pins:List (Addr × Obj)) (H:Hp) (b:Addr):Prop:=
 H b=none/\b≠X.env.locals/\b∉X.fs/\(b∈X.ex\/X.aD.heap.objs.size<=b)/\(∀x c,X.env.cells.lookup x=some c->c≠b)/\∀p∈X.pn++pins,p.1≠b
theorem Inv.Dt {σ:St}{b:Addr} (I:Inv X pins σ H s) (hb:s.heap.objs.size<=b) (hn:H' b=none):mj X pins H' b:=by
 refine⟨hn,Qm (NJ I.lt hb),I.Ik hb,.inr (NT I.sz hb),fun x c e z=>?_,fun p hp z=>?_⟩
 ·obtain⟨v,q⟩:=I.cell x c e
  exact absurd (NJ q.lt (by simp_all)) (OD _)
 ·exact absurd (NJ (Nh (I.pin p hp).1) (by simp_all)) (OD _)
structure Turn (P) (w) (K) (tg) (J:It) (fp:List Addr) (it) (tn:Nat->Heap->Prop):Prop where
 mem:it∈fp
 obj:∀i h,tn i h->∀b∈fp,∃o,h.get? b=some o/\∀v,o.data≠.cell v
 keep:∀i h h',tn i h->(∀b∈fp,∀o,h.get? b=some o->h'.get? b=some o)->tn i h'
 item:∀X , X.prog=P->X.w=w->X.K=K->X.calm=true->∀i pins s (σ:St) H E , Inv X pins σ H s->(∀b∈fp,mj X pins H b)->tn i s.heap->J.go i H →
  wpAny (model P w) X.A (pyNext (.ref it)) (fun r s1=>∃u,r=some u ∧
   wpAny (model P w) X.A (letOwnedTupleGo tg (.ref it) u) (fun _ s2=>∃x H',Inv X pins σ H' s2/\RelV x u/\J.yld i H x H'/\tn (i+1) s2.heap/\∀b∈fp,H' b=none) E s1) E s
 done:∀X , X.prog=P->X.w=w->X.K=K->X.calm=true->∀i pins s (σ:St) H E , Inv X pins σ H s->(∀b∈fp,mj X pins H b)->tn i s.heap->J.stop i H →
  wpAny (model P w) X.A (pyNext (.ref it)) (fun r s1=>r=none/\Inv X pins σ H s1) E s
 self:∀A i s Q E , tn i s.heap->Q (.ref it) s->wpAny (model P w) A (pyIter (.ref it)) Q E s
noncomputable abbrev TI:=St->Hp->(It->Hp->Prop)->Prop
noncomputable def PIE (X:Cx) (pins:List (Addr × Obj)) (σ:St) (tg:Expr) (R:It->Hp->Prop) (itv:Ng) (s2:Nk):Prop:=
 ∃it fp tn J H',itv=.ref it/\Inv X pins σ H' s2/\Turn X.prog X.w X.K tg J fp it tn/\tn 0 s2.heap/\(∀b∈fp,mj X pins H' b)/\R J H'
noncomputable def PI (X:Cx) (tg iter:Expr) (wi:TI):Prop:=
 ∀pins s (σ:St) H R , Inv X pins σ H s->wi σ H R →
  wpAny (model X.prog X.w) X.A (eval iter X.env) (fun v s1=>wpAny (model X.prog X.w) X.A (pyIter v) (PIE X pins σ tg R) X.xe s1) X.xe s
theorem B_ {M:Model}{A:N1}{E:Ng->Nk->Prop}{s:Nk}{tg:Expr}{it:Addr}{u:Ng}{o:Obj}{n:String}{vs:Array Ng}{Q:Unit->Nk->Prop} (ho:s.heap.get? it=some o) (hc:o.cls=.type n) (hd:o.data=.fields vs)
  (hn:["enumerate", "zip", "dict_itemiterator", "dict_reverseitemiterator", "odict_iterator", "itertools.zip_longest", "itertools.pairwise"].contains n=false) (hQ:Q () s):wpAny M A (letOwnedTupleGo tg (.ref it) u) Q E s:=by
 unfold letOwnedTupleGo
 cases tg<;>first
  | exact k5 hQ
  | (cases u<;>first
    | exact k5 hQ
    | (refine gV (wpAny_load ho ?_)
       rw[hc,hd]
       show wpAny M A (if (["enumerate", "zip", "dict_itemiterator", "dict_reverseitemiterator", "odict_iterator", "itertools.zip_longest", "itertools.pairwise"].contains n&&vs[0]? == some (rawInt _))=true then _ else _) Q E s
       rw[if_neg (by intro h;rw[hn,Bool.false_and] at h;cases h)]
       exact k5 hQ))
noncomputable def Itl (K:ab) (a:Addr):It:=
 ⟨fun i H=>∃xs x,SqL K H a xs/\xs[i]?=some x,fun i H x H'=>H'=H/\∀xs,SqL K H a xs->xs[i]?=some x,fun i H=>∃xs,SqL K H a xs/\xs.length<=i⟩
noncomputable def Itt (K:ab) (a:Addr):It:=
 ⟨fun i H=>∃xs x,SqT K H a xs/\xs[i]?=some x,fun i H x H'=>H'=H/\∀xs,SqT K H a xs->xs[i]?=some x,fun i H=>∃xs,SqT K H a xs/\xs.length<=i⟩
noncomputable def Itr (lo:Int) (n:Nat):It:=⟨fun i _=>i<n,fun i H x H'=>H'=H/\x=.int (lo+i),fun i _=>n<=i⟩
theorem zG {K:ab} (a it):Turn P w K tg (Itl K a) [it] it (fun i h=>h.IsListIter it a i) where
 mem:=by simp
 obj:=fun i h st b hb=>by
  have e:b=it:=by simp_all
  subst e
  obtain⟨o,e,c,d⟩:=st
  simp_all
 keep:=fun i h h' st k=>st.at fun o e=>k it (by simp) o e
 item:=by
  intro X hP hw hK hc i pins s σ H E I hf st hg
  subst hP hw hK
  obtain⟨xs,x,hq,hx⟩:=hg
  obtain⟨its,rv,p,hz⟩:=I.list hq
  obtain⟨u,hu,ru⟩:=rv.get hx
  obtain⟨f0,f1,f2,f3,f4,f5⟩:=hf it (by simp)
  refine wpAny_pyNext_list_item st p.isList (x:=u) (by simp_all) fun h' st' sb=>?_
  have I1:Inv X pins σ H { s with heap:=h' }:=I.turned (t':=s.toks) (fun b o hb e=>(sb.2 b hb).trans e) f0 f1 f3 f4 f5
  obtain⟨o,e,c,d⟩:=id st'
  exact⟨u,rfl,B_ (s:={ s with heap:=h' }) e c d (by decide) ⟨x,H,I1,ru,⟨rfl,fun ys hy=>by rw[I.ow hy hq];exact hx⟩,st',fun b hb=>(hf b hb).1⟩⟩
 done:=by
  intro X hP hw hK hc i pins s σ H E I hf st hg
  subst hP hw hK
  obtain⟨xs,hq,hx⟩:=hg
  obtain⟨its,rv,p,hz⟩:=I.list hq
  obtain⟨f0,f1,f2,f3,f4,f5⟩:=hf it (by simp)
  have hl:=rv.length
  exact wpAny_pyNext_list_end (I.ok.hd hc) st p.isList (by grind) fun h' eb=>⟨rfl,I.turned (t':=s.toks) (fun b o hb e=>eb b o hb e) f0 f1 f3 f4 f5⟩
 self:=fun _ _ _ _ _ st h=>wpAny_pyIter_listiter st h
theorem vZ {K:ab} (a it):Turn P w K tg (Itt K a) [it] it (fun i h=>h.IsTupleIter it a i) where
 mem:=by simp
 obj:=fun i h st b hb=>by
  have e:b=it:=by simp_all
  subst e
  obtain⟨o,e,c,d⟩:=st
  simp_all
 keep:=fun i h h' st k=>st.at fun o e=>k it (by simp) o e
 item:=by
  intro X hP hw hK hc i pins s σ H E I hf st hg
  subst hP hw hK
  obtain⟨xs,x,hq,hx⟩:=hg
  obtain⟨its,rv,p,hz⟩:=I.tuple hq
  obtain⟨u,hu,ru⟩:=rv.get hx
  obtain⟨f0,f1,f2,f3,f4,f5⟩:=hf it (by simp)
  refine wpAny_pyNext_tuple_item st (show s.heap.IsTuple a its.toArray from p) (x:=u) (by simp_all) fun h' st' sb=>?_
  have I1:Inv X pins σ H { s with heap:=h' }:=I.turned (t':=s.toks) (fun b o hb e=>(sb.2 b hb).trans e) f0 f1 f3 f4 f5
  obtain⟨o,e,c,d⟩:=id st'
  exact⟨u,rfl,B_ (s:={ s with heap:=h' }) e c d (by decide) ⟨x,H,I1,ru,⟨rfl,fun ys hy=>by rw[I.kQ hy hq];exact hx⟩,st',fun b hb=>(hf b hb).1⟩⟩
 done:=by
  intro X hP hw hK hc i pins s σ H E I hf st hg
  subst hP hw hK
  obtain⟨xs,hq,hx⟩:=hg
  obtain⟨its,rv,p,hz⟩:=I.tuple hq
  obtain⟨f0,f1,f2,f3,f4,f5⟩:=hf it (by simp)
  have hl:=rv.length
  exact wpAny_pyNext_tuple_end (I.ok.hd hc) st (show s.heap.IsTuple a its.toArray from p) (by grind) fun h' eb=>⟨rfl,I.turned (t':=s.toks) (fun b o hb e=>eb b o hb e) f0 f1 f3 f4 f5⟩
 self:=fun _ _ _ _ _ st h=>wpAny_pyIter_tupleiter st h
theorem wY {K:ab} (it) (lo) (n):Turn P w K tg (Itr lo n) [it] it (fun i h=>IsRangeIter h it (lo+(i:Nat)*1) ((n:Int) - (i:Nat)) 1) where
 mem:=by simp
 obj:=fun i h st b hb=>by
  simp_all
 keep:=fun i h h' st k=>k it (by simp) _ st
 item:=by
  intro X hP hw hK hc i pins s σ H E I hf st hg
  subst hP hw hK
  obtain⟨f0,f1,f2,f3,f4,f5⟩:=hf it (by simp)
  have W:=Tf.range (prog:=X.prog) (w:=X.w) (I.ok.hd hc) it lo 1 n
  refine W.item i s _ _ hg st fun v h' tk hv st' kk=>?_
  obtain⟨t,rfl⟩:=hv
  have I1:Inv X pins σ H { s with heap:=h',toks:=tk }:=I.turned (fun b o hb e=>kk b o (by simp_all) e) f0 f1 f3 f4 f5
  refine⟨_,rfl,B_ (s:={ s with heap:=h',toks:=tk }) (n:="range_iterator") st' rfl rfl (by decide) ⟨.int (lo+i),H,I1,⟨t,?_⟩,⟨rfl,rfl⟩,st',fun b hb=>(hf b hb).1⟩⟩
  simp
 done:=by
  intro X hP hw hK hc i pins s σ H E I hf st hg
  subst hP hw hK
  obtain⟨f0,f1,f2,f3,f4,f5⟩:=hf it (by simp)
  exact wpAny_pyNext_range_end (I.ok.hd hc) st (by have:n<=i:=hg;lia) fun h' eb=>⟨rfl,I.turned (t':=s.toks) (fun b o hb e=>eb b o hb e) f0 f1 f3 f4 f5⟩
 self:=fun _ _ _ _ _ st h=>wpAny_pyIter_rangeiter st h
section
variable {X:Cx}{tg:Expr}
theorem vj {σ:St}{lo hi:Int} (I:Inv X pins σ H s) (h1:-(2 ^ 62)<=lo) (h2:lo<2 ^ 62) (h3:-(2 ^ 62)<=hi) (h4:hi<2 ^ 62)
  (q:R (Itr lo (hi - lo).toNat) H):wpAny (model X.prog X.w) X.A (pyIter (.ref s.heap.objs.size)) (PIE X pins σ tg R) E { s with heap:=s.heap.push { cls:=.type "range", data:=.fields #[.int lo t,.int hi u,.int 1 v] },toks:=tk }:=by
 refine wpAny_pyIter_range (IsRange.new ..) (small_one h1 h2 h3 h4) ?_
 have I1:Inv X pins σ H { s with heap:=s.heap.push { cls:=.type "range", data:=.fields #[.int lo t,.int hi u,.int 1 v] },toks:=tk }:=I.kept fun b o e=>k3 _ e
 refine⟨(s.heap.push { cls:=.type "range", data:=.fields #[.int lo t,.int hi u,.int 1 v] }).objs.size,[(s.heap.push { cls:=.type "range", data:=.fields #[.int lo t,.int hi u,.int 1 v] }).objs.size],_,_,H,rfl,
  I1.kept (t':=tk) fun b o e=>k3 _ e,wY _ lo (hi - lo).toNat,?_,fun b hb=>?_,q⟩
 ·have e1:lo+((0:Nat):Int)*1=lo:=by simp
  have e2:(((hi - lo).toNat:Nat):Int) - ((0:Nat):Int)=Oo.Range.rangeSize lo hi 1:=by rw[rangeSize_one];lia
  show IsRangeIter _ _ (lo+((0:Nat):Int)*1) ((((hi - lo).toNat:Nat):Int) - ((0:Nat):Int)) 1
  rw[e1,e2]
  exact Nm _ rfl
 ·have e:b=(s.heap.push { cls:=.type "range", data:=.fields #[.int lo t,.int hi u,.int 1 v] }).objs.size:=by simp_all
  subst e
  exact I1.Dt (Ni _) (I1.hok.fresh (Ni _))
noncomputable def IA (ta:TA):TI:=fun σ H R=>ta σ H fun vs H1=>∃j:Int,vs=[.int j]/\-(2 ^ 62)<=j/\j<2 ^ 62/\R (Itr 0 j.toNat) H1
noncomputable def I_ (ta:TA):TI:=fun σ H R=>ta σ H fun vs H1=>∃i j:Int,vs=[.int i,.int j]/\(-(2 ^ 62)<=i/\i<2 ^ 62/\-(2 ^ 62)<=j/\j<2 ^ 62)/\R (Itr i (j - i).toNat) H1
theorem zc {a:Expr}{ta:TA}{p pos:Pos} (hg:Gl X "range") (hm:X.mg "range" = none) (ha:PA X [a] ta) (hs:starEach [a] X.env=[(false,eval a X.env)]:=by rfl):PI X tg (.Call (.Name "range" p) [a] [] pos) (IA ta):=by
 intro pins s σ H R I h
 refine Call_ (kI I hg hm boot_range (Pc (thn (ha pos pins s σ H _ I h) fun us s1 ⟨vs,H1,I1,r1,q1⟩=>?_) hs rfl))
 obtain⟨j,e,q1,q2,q⟩:=q1
 subst e
 cases r1 with
 | cons r rr=>
  cases rr
  obtain⟨t,rfl⟩:=r
  exact call_range_1 (vj I1 (by lia) (by lia) q1 q2 (by simp_all))
theorem zI {a b:Expr}{ta:TA}{p pos:Pos} (hg:Gl X "range") (hm:X.mg "range" = none) (ha:PA X [a,b] ta) (hs:starEach [a,b] X.env=[(false,eval a X.env),(false,eval b X.env)]:=by rfl) (hs2:starEach [b] X.env=[(false,eval b X.env)]:=by rfl) :
  PI X tg (.Call (.Name "range" p) [a,b] [] pos) (I_ ta):=by
 intro pins s σ H R I h
 refine Call_ (kI I hg hm boot_range (Pc (thn (ha pos pins s σ H _ I h) fun us s1 ⟨vs,H1,I1,r1,q1⟩=>?_) (by grind) (by rw[hs2];rfl)))
 obtain⟨i,j,e,⟨q1,q2,q3,q4⟩,q⟩:=q1
 subst e
 cases r1 with
 | cons r rr=>
  cases rr with
  | cons r' rr=>
   cases rr
   obtain⟨t,rfl⟩:=r
   obtain⟨t',rfl⟩:=r'
   exact call_range_2 (vj I1 q1 q2 q3 q4 q)
noncomputable def K4 (wi:TI) (g:TG) (tb:TS):TS:=fun D σ H=>wi σ H fun J H1=>∃W:Nat->Nat->St->Hp->Prop,(∃m,W 0 m σ H1)/\∀i m σ H,W i m σ H →
 (J.stop i H/\D.nx σ H)\/(J.go i H/\∃N:St->Hp->Prop,(∀σ' H',N σ' H'->∃m',m'<m/\W (i+1) m' σ' H')/\∀x H',J.yld i H x H'->g x σ H' fun σ2 H2=>tb { D with nx:=N,ct:=N,bk:=D.nx } σ2 H2)
noncomputable def i4 (fp:List Addr) (h:Heap):List (Addr × Obj):=fp.filterMap fun b=>(h.get? b).map fun o=>(b,o)
theorem cR (hb:b∈fp) (e:h.get? b=some o):(b,o)∈i4 fp h:=List.mem_filterMap.mpr ⟨b,hb,by grind⟩
theorem zg (hp:p∈i4 fp h):p.1∈fp/\h.get? p.1=some p.2:=by
 obtain⟨b,hb,e⟩:=List.mem_filterMap.mp hp
 cases q:h.get? b with
 | none=>simp_all
 | some o=>
  grind
theorem Inv.pinned {σ:St} (I:Inv X pins σ H s) (hf:∀b∈fp,mj X pins H b) (ho:∀b∈fp,∃o,s.heap.get? b=some o/\∀v,o.data≠.cell v):Inv X (pins++i4 fp s.heap) σ H s:=
 I.jW fun p hp=>(N9.mp hp).elim (fun z=>I.pin p (Nl _ z)) fun z=>by
  obtain⟨hb,e⟩:=zg z
  obtain⟨f0,f1,f2,_⟩:=hf p.1 hb
  grind
theorem Inv.gK {σ:St} (I:Inv X (pins++pl) σ H s):Inv X pins σ H s:=I.jW fun p hp=>I.pin p (Nl _ (Q6 _ hp))
theorem Il {iter:Expr}{body:List Stmt}{wi:TI}{g:TG}{tb:TS}{pos:Pos} (hp:SG (model X.prog X.w) X.A X.env X.xe) (hc:X.calm=true) (hi:PI X tg iter wi) (hg:PG X tg g) (hb:PSs X body tb)
  (hs:∀x,foldedSetIterable iter X.env x=pure x:=by intro _;rfl):PS X (.For tg iter body [] pos) (K4 wi g tb):=by
 intro pins s σ H D I h
 refine wpAny_For (thn (hi pins s σ H _ I h) fun v s1 h1=>thn h1 fun itv s2 h2=>?_) hs
 obtain⟨it,fp,tn,J,H2,e,I2,T,st2,f2,W,⟨m0,w0⟩,turn⟩:=h2
 subst e
 -- what stays true of the iterator's objects through the loop
 have stat:∀{H':Hp},(∀b∈fp,H' b=none)->∀b∈fp,mj X pins H' b:=fun hn b hb=>⟨hn b hb,(f2 b hb).2⟩
 refine codeAny_forLoop_any (fun n s'=>∃i σ' H',Inv X pins σ' H' s'/\tn i s'.heap/\(∀b∈fp,H' b=none)/\W i n σ' H') ?_ m0 ⟨0,σ,H2,I2,st2,fun b hb=>(f2 b hb).1,w0⟩
 rintro n s3 ⟨i,σ3,H3,I3,st3,fr3,w3⟩
 rcases turn i n σ3 H3 w3 with⟨stop,qn⟩ | ⟨go,N,hN,step⟩
 ·refine Pt hp (thn (T.done X rfl rfl rfl hc i pins s3 σ3 H3 X.xe I3 (stat fr3) st3 stop) fun r s4 ⟨hr,I4⟩=>?_)
  subst hr
  exact Ri ⟨σ3,H3,I4,qn⟩
 ·refine Pt hp (thn (T.item X rfl rfl rfl hc i pins s3 σ3 H3 X.xe I3 (stat fr3) st3 go) fun r s4 ⟨u,hr,h4⟩=>?_)
  subst hr
  refine Pt hp (thn h4 fun _ s5 ⟨x,H5,I5,r5,y5,st5,fr5⟩=>?_)
  have I5':=I5.pinned (stat fr5) (T.obj _ _ st5)
  refine Pt hp (thn (hg _ s5 σ3 H5 x u _ I5' r5 (step x H5 y5)) fun _ s6 ⟨σ6,H6,I6,q6⟩=>?_)
  refine Pt hp (thn (hb _ s6 σ6 H6 _ I6 q6) fun f s7 q7=>?_)
  have again:∀{σ7:St} {H7:Hp},Inv X (pins++i4 fp s5.heap) σ7 H7 s7->N σ7 H7->∃m,m<n/\∃i σ' H',Inv X pins σ' H' s7/\tn i s7.heap/\(∀b∈fp,H' b=none)/\W i m σ' H':=fun{σ7 H7} I7 n7=>by
   obtain⟨m',hm,w7⟩:=hN σ7 H7 n7
   refine⟨m',hm,i+1,σ7,H7,I7.gK,T.keep _ _ _ st5 fun b hb o e=>(I7.pin (b,o) (Nl _ (Nl _ (cR hb e)))).1,fun b hb=>?_,w7⟩
   obtain⟨o,e,d⟩:=T.obj _ _ st5 b hb
   exact(I7.pin (b,o) (Nl _ (Nl _ (cR hb e)))).2.1
  cases f with
  | next=>obtain⟨σ7,H7,I7,n7⟩:=q7;exact again I7 n7
  | cont=>obtain⟨σ7,H7,I7,n7⟩:=q7;exact again I7 n7
  | brk=>obtain⟨σ7,H7,I7,q7⟩:=q7;exact⟨σ7,H7,I7.gK,q7⟩
  | ret v=>obtain⟨x7,σ7,H7,I7,r7,q7⟩:=q7;exact⟨x7,σ7,H7,I7.gK,r7,q7⟩
end
noncomputable abbrev R2:=V->V->Hp->VK->Prop
noncomputable def OpR (X:Cx) (f:Ng->Ng->Sem Ng) (r:R2):Prop:=
 ∀pins s (σ:St) H x y v u Q , Inv X pins σ H s->RelV x v->RelV y u->r x y H Q →
  wpAny (model X.prog X.w) X.A (f v u) (EP X pins σ Q) X.xe s
noncomputable def UnR (X:Cx) (f:Ng->Sem Ng) (r:V->Hp->VK->Prop):Prop:=
 ∀pins s (σ:St) H x v Q , Inv X pins σ H s->RelV x v->r x H Q →
  wpAny (model X.prog X.w) X.A (f v) (EP X pins σ Q) X.xe s
noncomputable def bB (X:Cx) (f:Ng) (r:List V->Hp->VK->Prop):Prop:=
 ∀pins s (σ:St) H xs us Q , Inv X pins σ H s->Vals xs us->r xs H Q →
  wpAny (model X.prog X.w) X.A (call f us) (EP X pins σ Q) X.xe s
noncomputable def Mo (X:Cx) (r:V->Hp->(Bool->Hp->Prop)->Prop):Prop:=
 ∀pins s (σ:St) H x v Q , Inv X pins σ H s->RelV x v->r x H Q →
  wpAny (model X.prog X.w) X.A (truthy v) (TP X pins σ Q) X.xe s
noncomputable def tOp (r:R2) (ta tb:TE):TE:=fun σ H Q=>ta σ H fun x H1=>tb σ H1 fun y H2=>r x y H2 Q
noncomputable def tUn (r:V->Hp->VK->Prop) (ta:TE):TE:=fun σ H Q=>ta σ H fun x H1=>r x H1 Q
noncomputable def rI (C:Int->Int->Prop) (g:Int->Int->V):R2:=fun x y H Q=>∃i j,x=.int i/\y=.int j/\C i j/\Q (g i j) H
noncomputable def rI0 (g:Int->Int->V):R2:=fun x y H Q=>∃i j,x=.int i/\y=.int j/\Q (g i j) H
noncomputable def rU (g:Int->V):V->Hp->VK->Prop:=fun x H Q=>∃i,x=.int i/\Q (g i) H
section
variable {X:Cx}{a b c:Expr}{ta tb tc:TE}{pos:Pos}
theorem GP (ha:PE X a ta) (hb:PE X b tb){σ:St}{R:V->V->Hp->Prop} (I:Inv X pins σ H s)
  (h:ta σ H fun x H1=>tb σ H1 fun y H2=>R x y H2) {f:Ng->Ng->Sem Ng}
  (hf:∀v u s2 x y H2,Inv X pins σ H2 s2->RelV x v->RelV y u->R x y H2->wpAny (model X.prog X.w) X.A (f v u) Q X.xe s2) :
  wpAny (model X.prog X.w) X.A (eval a X.env) (fun v s₁=>wpAny (model X.prog X.w) X.A (eval b X.env) (fun u s₂=>wpAny (model X.prog X.w) X.A (f v u) Q X.xe s₂) X.xe s₁) X.xe s:=by
 refine thn (ha pins s σ H _ I h) fun v s1 ⟨x,H1,I1,r1,q1⟩=>?_
 refine thn (hb pins s1 σ H1 _ I1 q1) fun u s2 ⟨y,H2,I2,r2,q2⟩=>?_
 grind
theorem IU (ho:OpR X (binaryOp op) r) (ha:PE X a ta) (hb:PE X b tb):PE X (.BinOp a op b pos) (tOp r ta tb):=by
 intro pins s σ H Q I h
 exact wpAny_BinOp (GP ha hb I h fun v u s2 x y H2 I2 rx ry q=>ho pins s2 σ H2 x y v u Q I2 rx ry q)
theorem Jh {op:UnaryOp}{r:V->Hp->VK->Prop} (ho:UnR X (unaryOp op) r) (ha:PE X a ta):PE X (.UnaryOp op a pos) (tUn r ta):=by
 intro pins s σ H Q I h
 exact UnaryOp_ (thn (ha pins s σ H _ I h) fun v s1 ⟨x,H1,I1,r1,q1⟩=>ho pins s1 σ H1 x v Q I1 r1 q1)
theorem opI {g:Int->Int->Int}
  (rule:∀i j t u s Q E , C i j->Q (.int (g i j) s.toks) { s with toks:=s.toks+1 }->wpAny (model X.prog X.w) X.A (f (.int i t) (.int j u)) Q E s) :
  OpR X f (rI C fun i j=>.int (g i j)):=by
 intro pins s σ H x y v u Q I rx ry h
 obtain⟨i,j,rfl,rfl,hc,q⟩:=h
 obtain⟨t,rfl⟩:=rx
 obtain⟨t',rfl⟩:=ry
 exact rule i j t t' s _ _ hc ⟨.int (g i j),H,I.tok _,⟨_,rfl⟩,q⟩
theorem JW {g:Int->Int->Int}
  (rule:∀i j t u s Q E , Q (.int (g i j) s.toks) { s with toks:=s.toks+1 }->wpAny (model X.prog X.w) X.A (f (.int i t) (.int j u)) Q E s) :
  OpR X f (rI0 fun i j=>.int (g i j)):=by
 intro pins s σ H x y v u Q I rx ry h
 obtain⟨i,j,rfl,rfl,q⟩:=h
 obtain⟨t,rfl⟩:=rx
 obtain⟨t',rfl⟩:=ry
 exact rule i j t t' s _ _ ⟨.int (g i j),H,I.tok _,⟨_,rfl⟩,q⟩
theorem CV {g:Int->Int->Bool}
  (rule:∀i j t u s Q E , Q (.bool (g i j)) s->wpAny (model X.prog X.w) X.A (f (.int i t) (.int j u)) Q E s) :
  OpR X f (rI0 fun i j=>.bl (g i j)):=by
 intro pins s σ H x y v u Q I rx ry h
 obtain⟨i,j,rfl,rfl,q⟩:=h
 obtain⟨t,rfl⟩:=rx
 obtain⟨t',rfl⟩:=ry
 exact rule i j t t' s _ _ ⟨.bl (g i j),H,I,rfl,q⟩
theorem G5:OpR X (binaryOp .Add) (rI0 fun i j=>.int (i+j)):=JW fun _ _ _ _ _ _ _ q=>add_int q
theorem FV:OpR X (binaryOp .Sub) (rI0 fun i j=>.int (i - j)):=JW fun _ _ _ _ _ _ _ q=>sub_int q
theorem HA:OpR X (binaryOp .Mod) (rI (fun _ j=>0<j) fun i j=>.int (i % j)):=opI fun i j _ _ _ _ _ hc q=>by
 have h1:(0:Int)<j:=hc
 exact mod_int' (by lia) (by grind)
theorem unI {g:Int->Int}
  (rule:∀i t s Q E , Q (.int (g i) s.toks) { s with toks:=s.toks+1 }->wpAny (model X.prog X.w) X.A (f (.int i t)) Q E s) :
  UnR X f (rU fun i=>.int (g i)):=by
 intro pins s σ H x v Q I rx h
 obtain⟨i,rfl,q⟩:=h
 obtain⟨t,rfl⟩:=rx
 exact rule i t s _ _ ⟨.int (g i),H,I.tok _,⟨_,rfl⟩,q⟩
theorem rC:UnR X (unaryOp .USub) (rU fun i=>.int (-i)):=unI fun _ _ _ _ _ q=>neg_int q
end
section
variable {X:Cx}{a b c:Expr}{ta tb tc:TE}{pos:Pos}
theorem E7:OpR X (compareOp .Lt) (rI0 fun i j=>.bl (decide (i<j))):=CV fun _ _ _ _ _ _ _ q=>lt_int q
theorem jt:OpR X (compareOp .LtE) (rI0 fun i j=>.bl (decide (i<=j))):=CV fun _ _ _ _ _ _ _ q=>le_int q
theorem Iy:OpR X (compareOp .Gt) (rI0 fun i j=>.bl (decide (j<i))):=CV fun _ _ _ _ _ _ _ q=>gt_int q
theorem J8:OpR X (compareOp .GtE) (rI0 fun i j=>.bl (decide (j<=i))):=CV fun _ _ _ _ _ _ _ q=>ge_int q
theorem bX (b) (h:op≠.In:=by decide) (h2:op≠.NotIn:=by decide):behindInMarks op b=false:=by
 have e1:(op == CmpOp.In)=false:=by simp_all
 have e2:(op == CmpOp.NotIn)=false:=by simp_all
 cases b<;>simp[behindInMarks,e1,e2]
theorem Cv (ho:OpR X (compareOp op) r) (ha:PE X a ta) (hb:PE X b tb) (hm:behindInMarks op b=false):PE X (.Compare a [op] [b] pos) (tOp r ta tb):=by
 intro pins s σ H Q I h
 exact wpAny_Compare1 (GP ha hb I h fun v u s2 x y H2 I2 rx ry q=>ho pins s2 σ H2 x y v u Q I2 rx ry q) hm
noncomputable def Bh (t:TE):TT:=fun σ H Q=>t σ H fun x H'=>∃k,x=.bl k/\Q k H'
theorem C3 {op:CmpOp}{r:R2} (ho:OpR X (compareOp op) r) (ha:PE X a ta) (hb:PE X b tb) (hm:behindInMarks op b=false):PT X (.Compare a [op] [b] pos) (Bh (tOp r ta tb)):=by
 intro pins s σ H Q I h
 refine wpAny_isTrue_Compare1 (thn (ha pins s σ H _ I h) fun v s1 ⟨x,H1,I1,r1,q1⟩=>thn (hb pins s1 σ H1 _ I1 q1) fun u s2 ⟨y,H2,I2,r2,q2⟩=>
  thn (ho pins s2 σ H2 x y v u _ I2 r1 r2 q2) fun c s3 ⟨z,H3,I3,r3,k,e,q3⟩=>?_) hm
 subst e
 cases r3
 exact Pa ⟨H3,I3,q3⟩
noncomputable def wC (r r':R2) (ta tb tc:TE):TE:=fun σ H Q=>ta σ H fun x H1=>tb σ H1 fun y H2=>r x y H2 fun z H3=>∃k,z=.bl k ∧
 (if k=true then tc σ H3 fun w' H4=>r' y w' H4 Q else Q (.bl false) H3)
theorem Cg {op op':CmpOp}{r r':R2} (ho:OpR X (compareOp op) r) (ho':OpR X (compareOp op') r') (ha:PE X a ta) (hb:PE X b tb) (hc:PE X c tc)
  (hm:lastMarks [op,op'] [b,c]=false:=by with_unfolding_all rfl):PE X (.Compare a [op,op'] [b,c] pos) (wC r r' ta tb tc):=by
 intro pins s σ H Q I h
 refine Compare_chain (thn (ha pins s σ H _ I h) fun v s1 ⟨x,H1,I1,r1,q1⟩=>chain_link (thn (hb pins s1 σ H1 _ I1 q1) fun u s2 ⟨y,H2,I2,r2,q2⟩=>
  thn (ho pins s2 σ H2 x y v u _ I2 r1 r2 q2) fun d s3 ⟨z,H3,I3,r3,k,e,q3⟩=>?_)) hm
 subst e
 cases r3
 refine Pa ?_
 cases k with
 | false=>exact ite_ff ⟨.bl false,H3,I3,rfl,q3⟩
 | true=>exact ite_tt (chain_last (thn (hc pins s3 σ H3 _ I3 q3) fun w' s4 ⟨z',H4,I4,r4,q4⟩=>ho' pins s4 σ H4 y z' u w' Q I4 r2 r4 q4))
theorem Co {op op':CmpOp}{r r':R2} (ho:OpR X (compareOp op) r) (ho':OpR X (compareOp op') r') (ha:PE X a ta) (hb:PE X b tb) (hc:PE X c tc)
  (hm:lastMarks [op,op'] [b,c]=false:=by with_unfolding_all rfl):PT X (.Compare a [op,op'] [b,c] pos) (Bh (wC r r' ta tb tc)):=by
 intro pins s σ H Q I h
 refine isTrue_chain (thn (ha pins s σ H _ I h) fun v s1 ⟨x,H1,I1,r1,q1⟩=>test_link (thn (hb pins s1 σ H1 _ I1 q1) fun u s2 ⟨y,H2,I2,r2,q2⟩=>
  thn (ho pins s2 σ H2 x y v u _ I2 r1 r2 q2) fun d s3 ⟨z,H3,I3,r3,k,e,q3⟩=>?_)) hm
 subst e
 cases r3
 refine Pa ?_
 cases k with
 | false=>
  obtain⟨k',e',q'⟩:=q3
  cases e'
  exact ite_ff ⟨H3,I3,q'⟩
 | true=>
  refine ite_tt (test_last (thn (hc pins s3 σ H3 _ I3 q3) fun w' s4 ⟨z',H4,I4,r4,q4⟩=>thn (ho' pins s4 σ H4 y z' u w' _ I4 r2 r4 q4) fun d' s5 ⟨z2,H5,I5,r5,k2,e2,q5⟩=>?_))
  subst e2
  cases r5
  exact Pa ⟨H5,I5,q5⟩
noncomputable def CZ (K:ab) (x:V) (H:Hp) (k:Bool):Prop:=
 match x with
 | .non=>k=false
 | .bl b=>k=b
 | .int i=>k=(i != 0)
 | .str y=>y.length<=sizeLine/\k=((y.length:Int) != 0)
 | .byt y=>y.size<=sizeLine/\k=((y.size:Int) != 0)
 | .ref p=>(∃xs,SqL K H p xs/\k = !xs.isEmpty)\/(∃xs,SqT K H p xs/\k = !xs.isEmpty)\/∃kvs,H p=some (.dK kvs)/\k = !kvs.isEmpty
 | _=>False
theorem xt (r:KV kvs vs):(!vs.isEmpty) = !kvs.isEmpty:=by
 cases r<;>rfl
theorem n9 (r:Vals xs its):(!its.toArray.isEmpty) = !xs.isEmpty:=by
 cases r<;>simp
theorem iO:(sizeLine:Nat)<2 ^ 63:=by rw[Oi];decide
theorem Gy:Mo X (fun x H Q=>∃k,CZ X.K x H k/\Q k H):=by
 intro pins s σ H x v Q I rx h
 obtain⟨k,e,q⟩:=h
 have hl:=iO
 have hs:sizeLine=16777216:=Oi
 cases x with
 | non=>
  cases rx
  have e':k=false:=e
  subst e'
  exact truthy_none ⟨H,I,q⟩
 | bl b=>
  cases rx
  have e':k=b:=e
  subst e'
  exact Pa ⟨H,I,q⟩
 | int i=>
  obtain⟨t,rfl⟩:=rx
  have e':k=(i != 0):=e
  subst e'
  exact PySem.P.truthy_int ⟨H,I,q⟩
 | str y=>
  obtain⟨t,rfl⟩:=rx
  obtain⟨hy,e'⟩:y.length<=sizeLine/\k=((y.length:Int) != 0):=e
  subst e'
  exact PySem.P.truthy_str (by lia) ⟨H,I.tok _,q⟩
 | byt y=>
  obtain⟨t,rfl⟩:=rx
  obtain⟨hy,e'⟩:y.size<=sizeLine/\k=((y.size:Int) != 0):=e
  subst e'
  exact PySem.W.truthy_bytes (by lia) ⟨H,I.tok _,q⟩
 | ref p=>
  cases rx
  have e':(∃xs,SqL X.K H p xs/\k = !xs.isEmpty)\/(∃xs,SqT X.K H p xs/\k = !xs.isEmpty)\/∃kvs,H p=some (.dK kvs)/\k = !kvs.isEmpty:=e
  rcases e' with⟨xs,hx,e'⟩ | ⟨xs,hx,e'⟩ | ⟨kvs,hx,e'⟩
  ·subst e'
   obtain⟨its,r,pl,hz⟩:=I.list hx
   have hlen:=r.length
   exact wpAny_truthy_list pl.isList (by grind) ⟨H,I.tok _,by rw[n9 r];exact q⟩
  ·subst e'
   obtain⟨its,r,pl,hz⟩:=I.tuple hx
   have hlen:=r.length
   exact truthy_tuple pl (by grind) ⟨H,I.tok _,by rw[n9 r];exact q⟩
  ·subst e'
   obtain⟨hz,hS,vs,r,m⟩:kvs.length<=sizeLine/\(p == sysModules)=false/\∃vs,KV kvs vs/\s.heap.DictOf (cw X.prog X.w) p vs:=I.hok p _ hx
   have hlen:kvs.length=vs.length:=Paired.length r
   exact wpAny_truthy_dict hS m (by lia) ⟨H,I.tok _,by rw[xt r];exact q⟩
 | _=>exact(show False from e).elim
theorem B5 (ha:PE X a ta) (he:∀whole,isTrue a X.env whole=(do let v ← whole;standAt a.pos;holding [v] (truthy v))) :
  PT X a (fun σ H Q=>ta σ H fun x H'=>∃k,CZ X.K x H' k/\Q k H'):=by
 intro pins s σ H Q I h
 exact isTrue_plain (thn (ha pins s σ H _ I h) fun v s1 ⟨x,H1,I1,r1,q1⟩=>Gy pins s1 σ H1 x v Q I1 r1 q1) (he _)
theorem wD:OpR X (binaryOp .Add) (fun x y H Q=>∃i j,x=.str i/\y=.str j/\i.length+j.length<=sizeLine/\Q (.str (i++j)) H):=by
 intro pins s σ H x y v u Q I rx ry h
 obtain⟨i,j,rfl,rfl,hz,q⟩:=h
 obtain⟨t,rfl⟩:=rx
 obtain⟨t',rfl⟩:=ry
 exact add_str (fun t' tk=>⟨.str (i++j),H,I.tok _,⟨_,rfl⟩,q⟩) hz
theorem vals1 (r:Vals [x] us):∃u,us=[u]/\RelV x u:=by
 cases r with
 | cons r1 r2=>cases r2;simp_all
theorem vals2 (r:Vals [x,y] us):∃u w',us=[u,w']/\RelV x u/\RelV y w':=by
 cases r with
 | cons r1 r2=>
  cases r2 with
  | cons r3 r4=>cases r4;grind
theorem z_ (hc:X.calm=true):bB X (.builtin "max") (fun xs H Q=>∃i j,xs=[.int i,.int j]/\Q (.int (if j > i then j else i)) H):=by
 intro pins s σ H xs us Q I r h
 obtain⟨i,j,rfl,q⟩:=h
 obtain⟨u,w',rfl,⟨t,rfl⟩,⟨t',rfl⟩⟩:=vals2 r
 refine max_two_ints (I.ok.hd hc) fun h' tk k=>⟨_,H,I.kept k,?_,q⟩
 by_cases hj:j > i
 ·rw[if_pos hj,if_pos hj];exact⟨_,rfl⟩
 ·rw[if_neg hj,if_neg hj];exact⟨_,rfl⟩
theorem qT:bB X (.type "int") (fun xs H Q=>(∃i,xs=[.int i]/\Q (.int i) H)\/∃k,xs=[.bl k]/\Q (.int (if k then 1 else 0)) H):=by
 intro pins s σ H xs us Q I r h
 rcases h with⟨i,rfl,q⟩ | ⟨k,rfl,q⟩
 ·obtain⟨u,rfl,t,rfl⟩:=vals1 r
  exact call_int_int ⟨.int i,H,I,⟨_,rfl⟩,q⟩
 ·obtain⟨u,rfl,r1⟩:=vals1 r
  cases r1
  exact call_int_bool ⟨.int (if k then 1 else 0),H,I.tok _,⟨_,rfl⟩,q⟩
end
structure F5 (h:Heap) (x dx C) (mA):Prop where
 obj:h.get? x=some (RO C dx)
 ns:h.Ns1 dx mA
 ne:dx≠x
theorem zQ {h:Heap} (n:h.Ns1 dx mA):∃od,h.get? dx=some od/\∀name,R6 name od=some (mA name):=by
 obtain⟨o,es,ep,ho,hd,hk,_,hm⟩:=n
 refine⟨o,ho,fun name=>?_⟩
 have e:=hm name
 unfold nsFind findBy at e
 rw[<- Array.find?_toList] at e
 unfold R6
 rw[hd]
 dsimp only
 split
 ·simp_all
 ·rename_i q
  rw[q] at e
  have a:es.toList.any (·.refKey)=false:=by
   rw[List.any_eq_false]
   intro y hy
   obtain⟨z,t,hkey⟩:=hk y (O5.mp hy)
   simp[Ta.refKey,hkey]
  simp_all
theorem F5.look {h:Heap}{x dx C:Addr}{mA:Str->Option Ng} (I:F5 h x dx C mA):∃od,PySem.W.InstAt h x (RO C dx) C (some od)/\∀name,R6 name od=some (mA name):=
 let ⟨od,ho,hl⟩:=zQ I.ns
 ⟨od,⟨I.obj,rfl,rfl,ho⟩,hl⟩
theorem kM.some_of (r:kM (some v) o):∃u,o=some u/\RelV v u:=by
 cases o with
 | none=>exact(show False from r).elim
 | some u=>exact⟨u,rfl,r⟩
section
variable {P:NC}{w:N4}{H H':Hp}{h h':Heap}{a C dx:Addr}{fs fs':List (Str × V)}
theorem Ex (hok:HOk P w H h) (e:H a=some (.ins C dx fs)):∃mA,F5 h a dx C mA/\(∀f,kM (fs.lookup f) (mA f))/\PySem.Within mA (fs.map (·.1))/\fs.length<=1000/\H dx=some (.own a):=by
 obtain⟨d,z,ne,ob,mA,n,r,q⟩:=(show bK P w H h a (.ins C dx fs) from hok a _ e)
 exact⟨mA,⟨ob,n,ne⟩,r,q,z,d⟩
end
structure Cls (K) (C):Prop where
 pg:PySem.W.plainGet K C Str.empty=true
 hd:PySem.W.hasDictIn K C=true
 po:PySem.W.plainOver K C=true
 sa:PySem.W.findIn K (.ref C) "__setattr__" = some (some (.builtin "object.__setattr__"))
theorem Cls.get {K:ab} (c:Cls K C) (f):PySem.W.plainGet K C f=true:=c.pg
section
variable {X:Cx}{pins:List (Addr × Obj)}{σ:St}{H:Hp}{s:Nk}{A:N1}{E:Ng->Nk->Prop}{Q:Ng->Nk->Prop}{c:Ng}{b:Bool}
inductive jz (K) (H:Hp):V->Ng->Prop where
 | non:jz K H .non (.type "NoneType")
 | bl (x):jz K H (.bl x) (.type "bool")
 | int (i):jz K H (.int i) (.type "int")
 | str (x):jz K H (.str x) (.type "str")
 | flt (x):jz K H (.flt x) (.type "float")
 | lst (e:H a=some (.lst xs)):jz K H (.ref a) (.type "list")
 | frz (e:H a=some (.frz o (.lst xs))):jz K H (.ref a) (.type "list")
 | tup (e:H a=some (.tup xs)):jz K H (.ref a) (.type "tuple")
 | ji (e:H a=some (.frz o (.dK kvs))):jz K H (.ref a) (.type "dict")
 | dK (e:H a=some (.dK kvs)):jz K H (.ref a) (.type "dict")
 | dT (e:H a=some (.dT kvs)):jz K H (.ref a) (.type "dict")
 | ins (e:H a=some (.ins C dx fs)) (cl:Cls K C) (ha:PySem.W.findIn K (.ref C) "__class__" = some (some (.builtin "object.__class__")))
   (hn:PySem.W.specialIn K (.builtin "object.__class__") "__get__" = some (some (.builtin "getset_descriptor.__get__"))) (htk:PySem.W.takesIn K (.builtin "object.__class__")=some true)
   (hm:PySem.W.mroIn K C (.type "object")=some true):jz K H (.ref a) (.ref C)
theorem zt {x:V}{u t:Ng} (I:Inv X pins σ H s) (rx:RelV x u) (ty:jz X.K H x t) (e:OX X.K t c=some b) (h:∀tk,Q (.bool b) { s with toks:=tk }) :
  wpAny (model X.prog X.w) A (call (.builtin "isinstance") [u,c]) Q E s:=by
 cases ty with
 | non=>cases (show u=OI from rx);exact Oq PySem.W.kitx_none I.kIn Qn e (fun z=>nomatch z) h
 | bl y=>cases (show u=SQ y from rx);exact Oq PySem.W.kitx_bool I.kIn Qn e (fun z=>nomatch z) h
 | int i=>obtain⟨t,q⟩:=(show ∃t,u=Pr i t from rx);cases q;exact Oq PySem.W.kitx_int I.kIn Qn e (fun z=>nomatch z) h
 | str y=>obtain⟨t,q⟩:=(show ∃t,u=SF y t from rx);cases q;exact Oq PySem.W.kitx_str I.kIn Qn e (fun z=>nomatch z) h
 | flt y=>obtain⟨t,q⟩:=(show ∃t,u=Ng.float y t from rx);cases q;exact Oq PySem.W.kitx_float I.kIn Qn e (fun z=>nomatch z) h
 | @lst a xs ea=>
  cases (show u=Oj a from rx)
  obtain⟨_,_,n,_,h1⟩:=(show bK X.prog X.w H s.heap a (.lst xs) from I.hok a _ ea)
  exact Oq PySem.W.kitx_list I.kIn ⟨_,h1,rfl⟩ e (fun z=>nomatch z) h
 | @frz a ob xs ea=>
  cases (show u=Oj a from rx)
  obtain⟨_,_,_,n,_,h1⟩:=(show bK X.prog X.w H s.heap a (.frz ob (.lst xs)) from I.hok a _ ea)
  exact Oq PySem.W.kitx_list I.kIn ⟨_,h1,rfl⟩ e (fun z=>nomatch z) h
 | @tup a xs ea=>
  cases (show u=Oj a from rx)
  obtain⟨_,_,_,p⟩:=(show bK X.prog X.w H s.heap a (.tup xs) from I.hok a _ ea)
  obtain⟨o,h1,⟨h2,_⟩,_⟩:=p
  exact Oq PySem.W.kitx_tuple I.kIn ⟨o,h1,h2⟩ e (fun z=>nomatch z) h
 | @ji a ob kvs ea=>
  cases (show u=Oj a from rx)
  obtain⟨_,_,_,vs,_,p⟩:=(show bK X.prog X.w H s.heap a (.frz ob (.dK kvs)) from I.hok a _ ea)
  obtain⟨o,es,ep,h1,h2,_⟩:=p
  exact Oq RE I.kIn ⟨o,h1,h2.1⟩ e (fun z=>nomatch z) h
 | @dK a kvs ea=>
  cases (show u=Oj a from rx)
  obtain⟨_,_,vs,_,p⟩:=(show bK X.prog X.w H s.heap a (.dK kvs) from I.hok a _ ea)
  obtain⟨o,es,ep,h1,h2,_⟩:=p
  exact Oq RE I.kIn ⟨o,h1,h2.1⟩ e (fun z=>nomatch z) h
 | @dT a kvs ea=>
  cases (show u=Oj a from rx)
  obtain⟨_,_,xs,_,o,es,ep,h1,h2,_⟩:=(show bK X.prog X.w H s.heap a (.dT kvs) from I.hok a _ ea)
  exact Oq RE I.kIn ⟨o,h1,h2.1⟩ e (fun z=>nomatch z) h
 | @ins a C dx fs ea cl ha hn htk hm=>
  cases (show u=Oj a from rx)
  obtain⟨mA,O,_⟩:=Ex I.hok ea
  obtain⟨od,J,_⟩:=O.look
  exact Oq (PySem.W.kitx_own (cl.get _) cl.hd ha hn htk hm) I.kIn J e (fun z=>nomatch z) h
end
structure eJ (k) (A:N1):Prop where
 hd:A.handled=none
 dp:A.depth+3*k+5<recursionLimit
 un:A.units+16*k+200<cLine
 gd:A.guards=some []
theorem eJ.mono (r:eJ k A) (h:j<=k):eJ j A:=⟨r.hd,by have:=r.dp;lia,by have:=r.un;lia,r.gd⟩
theorem eJ.deeper (r:eJ (k+1) A) (env):eJ k (A.deeper env):=
 ⟨r.hd,by have:=r.dp;show A.depth+1+3*k+5<_;lia,by have:=r.un;show A.units+3+16*k+200<_;lia,r.gd⟩
theorem eJ.depth (r:eJ k A):A.depth<recursionLimit:=by have:=r.dp;lia
theorem eJ.units (r:eJ k A):A.units+64<cLine:=by have:=r.un;lia
noncomputable def Jl:TA:=fun _ H Q=>Q [] H
noncomputable def E3 (ta:TE) (tr:TA):TA:=fun σ H Q=>ta σ H fun x H1=>tr σ H1 fun xs H2=>Q (x::xs) H2
section
variable {X:Cx}{e:Expr}{es:List Expr}{te:TE}{t:TA}{pos:Pos}
theorem oJ:PA X [] Jl:=fun _ _ _ _ H Q I h=>RF ⟨[],H,I,.nil,h⟩
theorem i8 (ha:PE X e te) (hr:PA X es t) (hs:starEach (e::es) X.env=(false,eval e X.env)::starEach es X.env:=by rfl):PA X (e::es) (E3 te t):=by
 intro pos pins s σ H Q I h
 rw[hs]
 show wpAny _ _ (spliced ((false,eval e X.env)::backTo pos (starEach es X.env))) _ _ s
 refine PM (thn (ha pins s σ H _ I h) fun u s1 ⟨x,H1,I1,r1,q1⟩=>?_)
 exact thn (hr pos pins s1 σ H1 _ I1 q1) fun us s2 ⟨xs,H2,I2,r2,q2⟩=>⟨x::xs,H2,I2,.cons r1 r2,q2⟩
noncomputable def Mv (t:TA):TE:=fun σ H Q=>t σ H fun xs H1=>xs.length<=sizeLine/\∀p,H1 p=none->Q (.ref p) (upd H1 p (.tup xs))
noncomputable def Lx (t:TA):TE:=fun σ H Q=>t σ H fun xs H1=>xs.length<=sizeLine/\∀p,H1 p=none->Q (.ref p) (upd H1 p (.lst xs))
theorem Fm {x1} (h:PA X es t):PE X (.Tuple es x1 pos) (Mv t):=by
 intro pins s σ H Q I hq
 refine wpAny_Tuple_spliced (thn (h pos pins s σ H _ I hq) fun us s1 ⟨xs,H1,I1,r,z,q⟩=>⟨by rw[<- r.length];exact z,?_⟩)
 have hf:H1 s1.heap.objs.size=none:=I1.hok.fresh (Ni _)
 refine⟨.ref s1.heap.objs.size,upd H1 s1.heap.objs.size (.tup xs),I1.laid (t':=s1.toks) (fun b u e=>k3 _ e) (Ni _) ?_,rfl,q _ hf⟩
 exact⟨z,us,r,⟨_,Nm _ rfl,⟨rfl,_,rfl⟩,rfl⟩⟩
theorem HN (h:PA X es t):PE X (.List es pos) (Lx t):=by
 intro pins s σ H Q I hq
 refine wpAny_List_spliced (thn (h pos pins s σ H _ I hq) fun us s1 ⟨xs,H1,I1,r,z,q⟩=>⟨by rw[<- r.length];exact z,?_⟩)
 have hf:H1 s1.heap.objs.size=none:=I1.hok.fresh (Ni _)
 refine⟨.ref s1.heap.objs.size,upd H1 s1.heap.objs.size (.lst xs),I1.laid (t':=s1.toks) (fun b u e=>k3 _ e) (Ni _) ?_,rfl,q _ hf⟩
 exact⟨z,us,0,r,Nm _ rfl⟩
end
noncomputable abbrev Sp:=List V->Hp->VK->XK->Prop
noncomputable abbrev CXT:=List Env->Hp->Nk->XK->Ng->Nk->Prop
structure Ai (P) (w) (K) (mg) (base) (A:N1) (outer) (s:Nk) (H:Hp):Prop where
 frames:A.frames=some outer
 mod:Mod K mg base
 bs:∀b o,base.get? b=some o->s.heap.get? b=some o/\H b=none
 bsz:base.objs.size<=s.heap.objs.size
 mK:s.heap.FunFrames base outer
 frf:∀b∈frs outer,H b=none
 hok:HOk P w H s.heap
 bare:RP s.gens
noncomputable def CE (outer:List Env) (P:NC) (w:N4) (H:Hp) (s:Nk) (Q:VK) (u:Ng) (s':Nk):Prop:=
 ∃v H',s'.os=s.os/\RP s'.gens/\Un (frs outer) [] H H' s.heap s'.heap/\HOk P w H' s'.heap/\RelV v u/\Q v H'
noncomputable def CR (CX:CXT) (outer:List Env) (P:NC) (w:N4) (H:Hp) (s:Nk) (Q:VK) (E:XK) (r:Result) (s':Nk):Prop:=
 match r with
 | .ok (.ret u)=>CE outer P w H s Q u s'
 | .ok _=>False
 | .error e=>CX outer H s E e s'
structure dJ (P) (w) (K) (mg) (base) (CX) (k) (f) (fd) (ps:List Str) (sp:Sp):Prop where
 len:∀vs H Q E,sp vs H Q E->vs.length=ps.length
 run:∀A outer s H args us vs Q E , eJ k A->Ai P w K mg base A outer s H->SH s fd args (ps.zip us)->Vals vs us->sp vs H Q E →
  codeAny (model P w) A (.call (.ref f) args) (CR CX outer P w H s Q E) s
theorem dJ.mono {K:ab} (F:dJ P w K mg base CX j f fd ps sp) (h:j<=k) :
  dJ P w K mg base CX k f fd ps sp:=⟨F.len,fun A outer s H args us vs Q E hr=>F.run A outer s H args us vs Q E (hr.mono h)⟩
theorem dJ.imp {K:ab} (F:dJ P w K mg base CX k f fd ps sp)
  (h:∀vs H Q E,sp' vs H Q E->sp vs H Q E):dJ P w K mg base CX k f fd ps sp':=
 ⟨fun vs H Q E q=>F.len vs H Q E (h _ _ _ _ q),fun A outer s H args us vs Q E hr he hb hv hs=>F.run A outer s H args us vs Q E hr he hb hv (h _ _ _ _ hs)⟩
section
variable {X:Cx}{pins:List (Addr × Obj)}{σ:St}{H:Hp}{s s':Nk}
theorem Inv.J6 (I:Inv X pins σ H s):Ai X.prog X.w X.K X.mg X.base X.A X.stack s H:=
 ⟨I.ok.frames,I.ok.mod,I.bs,NT I.ok.bsz I.sz,I.stack,I.sH,I.hok,I.bare⟩
theorem Inv.after (I:Inv X pins σ H s) (h:CE X.stack X.prog X.w H s Q u s'):EP X pins σ Q u s':=by
 obtain⟨v,H',os,bare,un,hok,r,q⟩:=h
 obtain⟨hh,g,d,t,os'⟩:=s'
 obtain rfl:os'=s.os:=os
 exact⟨v,H',I.call (h':=hh) (g':=g) (d':=d) (t':=t) (ch:=[]) un hok bare (fun b z=>absurd z (by simp)),r,q⟩
end
noncomputable def I0 (sp:Sp) (dvs:List V) (E:XK) (t:TA):TE:=fun σ H Q=>t σ H fun vs H1=>sp (vs++dvs) H1 Q E
noncomputable def Binds (K:ab) (fd:Qr) (ps:List Str) (ds:List Ng):Prop:=
 ∀s us , K.In s.heap->(us++ds).length=ps.length->SH s fd ⟨us,[]⟩ (ps.zip (us++ds))
theorem Binds.all {K:ab} (h:∀us:List Ng,us.length=ps.length->bindArgs fd ⟨us,[]⟩=pure (ps.zip us)):Binds K fd ps []:=fun s us _ hl=>by
 rw[PU] at hl ⊢
 exact .of_eq (h us hl)
noncomputable def Passes (CX:CXT) (X:Cx) (E:XK):Prop:=∀pins (σ:St) H s e s' , Inv X pins σ H s->CX X.stack H s E e s'->X.xe e s'
section
variable {X:Cx}{CX:CXT}{k:Nat}{f C:Addr}{fd:Qr}{ps:List Str}{sp:Sp}{dvs:List V}{ds:List Ng}{E:XK}{x m:Str}{p pos apos:Pos}{e o:Expr}{es:List Expr}{ta:TE}{t:TA}
theorem Hd {σ:St} (F:dJ X.prog X.w X.K X.mg X.base CX k f fd ps sp) (hr:eJ k X.A) (hb:Binds X.K fd ps ds) (hd:Vals dvs ds) (hx:Passes CX X E)
  (I:Inv X pins σ H s) (r:Vals vs us) (h:sp (vs++dvs) H Q E):wpAny (model X.prog X.w) X.A (call (.ref f) us) (EP X pins σ Q) X.xe s:=by
 have r2:Vals (vs++dvs) (us++ds):=r.append hd
 have hl:(us++ds).length=ps.length:=by rw[<- r2.length];exact F.len _ _ _ _ h
 refine R5 (O_ (F.run X.A X.stack s H ⟨us,[]⟩ (us++ds) (vs++dvs) Q E hr I.J6 (hb s us I.kIn hl) r2 h) fun r s' hq=>?_)
 cases r with
 | error e=>exact hx pins σ H s e s' I hq
 | ok fl=>
  cases fl with
  | ret u=>exact I.after hq
  | next=>assumption
  | brk=>assumption
  | cont=>assumption
theorem CO (F:dJ X.prog X.w X.K X.mg X.base CX k f fd ps sp) (hr:eJ k X.A) (hg:Gl X x) (hm:X.mg x=some (.ref f)) (hk:Oy X.K (.ref f)=true) (hb:Binds X.K fd ps ds) (hd:Vals dvs ds) (hx:Passes CX X E)
  (ha:PA X (e::es) t) (hdb:(x == ("__debug__" : Str))=false:=by decide) (he:starEach (e::es) X.env=(false,eval e X.env)::starEach es X.env:=by rfl) (hpl:(backTo pos (starEach es X.env)).any (·.1)=false:=by rfl) :
  PE X (.Call (.Name x p) (e::es) [] pos) (I0 sp dvs E t):=by
 intro pins s σ H Q I h
 refine Qs (yT I hg hm ?_ hdb)
 refine Rr (h₀:=X.base) I.ok.mod.kin hk (thn (ha pos pins s σ H _ I h) fun us s1 ⟨vs,H1,I1,r,q⟩=>⟨I1.kIn,?_⟩) he hpl
 exact Hd F hr hb hd hx I1 r q
end
structure aA (N P:List Str) (sc:Rh):Prop where
 kind:sc.kind=.function
 co:sc.isCoroutine=false
 gen:sc.isGenerator=false
 nd:N.Nodup
 pre:N.take P.length=P
 par:∀x∈P,sc.names.lookup x=some .local\/sc.names.lookup x=some .cell
 Hb:∀y∈sc.names,y.2≠.free
theorem qP {kindOf:Str->Option Pp}{x:Str}:∀{binds:List (Str × Ng)}{m:Str->Option Ng},(∀v,(x,v)∉binds)->bindL kindOf binds m x=m x
 | [],_,_=>rfl
 | (n,v)::r,m,h=>by
  unfold bindL
  rw[qP fun w hw=>h w (ox _ hw)]
  split
  ·grind
  ·rfl
theorem rf {kindOf:Str->Option Pp}:∀{binds:List (Str × Ng)}{m:Str->Option Ng},(∀v,(x,v)∉binds)->bindC kindOf binds m x=m x
 | [],_,_=>rfl
 | (n,v)::r,m,h=>by
  unfold bindC
  rw[rf fun w hw=>h w (ox _ hw)]
  split
  ·rfl
  grind
theorem qW {kindOf:Str->Option Pp}{x:Str}{v:Ng}:∀{P:List Str}{vs:List Ng}{i:Nat}{m:Str->Option Ng},P.Nodup->P[i]?=some x->vs[i]?=some v->kindOf x=some .local →
  bindL kindOf (P.zip vs) m x=some v
 | [],_,_,_,_,h,_,_=>by simp at h
 | _::_,[],_,_,_,_,h,_=>by simp at h
 | p::P,w::vs,0,m,nd,h1,h2,hk=>by
  simp at h1 h2;subst h1;subst h2
  show bindL kindOf ((p,w)::P.zip vs) m p=_
  unfold bindL
  rw[qP fun v hv=>(Of.mp nd).1 (Rj hv).1,if_pos hk]
  simp
 | p::P,w::vs,i+1,m,nd,h1,h2,hk=>by
  show bindL kindOf ((p,w)::P.zip vs) m x=_
  unfold bindL
  exact qW (i:=i) (Of.mp nd).2 (by simp_all) (by simp_all) hk
theorem qp {kindOf:Str->Option Pp}{x:Str}{v:Ng}:∀{P:List Str}{vs:List Ng}{i:Nat}{m:Str->Option Ng},P.Nodup->P[i]?=some x->vs[i]?=some v->kindOf x≠some .local →
  bindC kindOf (P.zip vs) m x=some v
 | [],_,_,_,_,h,_,_=>by simp at h
 | _::_,[],_,_,_,_,h,_=>by simp at h
 | p::P,w::vs,0,m,nd,h1,h2,hk=>by
  simp at h1 h2;subst h1;subst h2
  show bindC kindOf ((p,w)::P.zip vs) m p=_
  unfold bindC
  rw[rf fun v hv=>(Of.mp nd).1 (Rj hv).1,if_neg hk]
  simp
 | p::P,w::vs,i+1,m,nd,h1,h2,hk=>by
  show bindC kindOf ((p,w)::P.zip vs) m x=_
  unfold bindC
  exact qp (i:=i) (Of.mp nd).2 (by simp_all) (by simp_all) hk
noncomputable def start (N:List Str) (vs:List V):St:=vs.map some++NS (N.length - vs.length) none
noncomputable def jJ (CX:CXT) (P:NC) (w:N4) (K:ab) (mg:Str->Option Ng) (base:Heap) (N:List Str) (qual:Str) (scope:Rh) (f:Addr) (cd:Ng) (A:N1) (outer:List Env) (s:Nk) (H:Hp) (E:XK):Cx where
 prog:=P
 w:=w
 K:=K
 mg:=mg
 base:=base
 A:=A.deeper (envOfC qual scope s.heap.objs.size f cd)
 N:=N
 aD:=s
 aK:=H
 env:=envOfC qual scope s.heap.objs.size f cd
 outer:=outer
 stack:=envOfC qual scope s.heap.objs.size f cd::outer
 ex:=[]
 calm:=true
 fn:=fun _=>true
 pn:=[]
 xe:=fun e s'=>wpAny (model P w) (A.deeper (envOfC qual scope s.heap.objs.size f cd)) (leaving (envOfC qual scope s.heap.objs.size f cd) e) (fun _ s''=>CX outer H s E e s'') (fun e' s''=>CX outer H s E e' s'') s'
theorem vS {sc:Rh} (h:sc.names.lookup x=some .cell):∃c,(cellsFrom n sc.names []).lookup x=some c:=by
 have q:=PL sc.names n [] (.inl h)
 exact Pu.mp q
theorem qq {CX:CXT}{P:NC}{w:N4}{K:ab}{mg:Str->Option Ng}{base:Heap}{N ps:List Str}{qual:Str}{scope:Rh}{f:Addr}{cd:Ng}{A:N1}{outer:List Env}{s s1:Nk}{H:Hp}{E:XK}{us:List Ng}{vs:List V}
  (S:aA N ps scope) (hd:A.handled=none) (e0:Ai P w K mg base A outer s H) (hl:vs.length=ps.length) (r:Vals vs us)
  (x:InCallC s s.heap.objs.size (bindL (envOfC qual scope s.heap.objs.size f cd).kindOf (ps.zip us) fun _=>none) (cellsFrom (s.heap.objs.size+1) scope.names []) (bindC (envOfC qual scope s.heap.objs.size f cd).kindOf (ps.zip us) fun _=>none) s1) :
  Inv (jJ CX P w K mg base N qual scope f cd A outer s H E) [] (start N vs) H s1:=by
 have hpl:ps.length<=N.length:=by have:=congrArg List.length S.pre;rw[NH] at this;lia
 obtain⟨h1,tk,rfl,hk⟩:=x.done
 have noA:∀b:Addr,b∉(jJ CX P w K mg base N qual scope f cd A outer s H E).ex:=fun b z=>absurd (show b∈([]:List Addr) from z) (by simp)
 refine⟨⟨e0.mod,S.kind,rfl,rfl,Ni _,fun y z c h1 h2=>?_,fun y hy=>?_,fun y c _ h=>?_,fun _=>hd,N1.frames_deeper e0.frames,.inr ⟨rfl,rfl⟩,fun b z=>absurd z (noA b),e0.bs,e0.bsz,fun b _ _=>noA b,fun b z=>absurd z (noA b),e0.mK,e0.frf⟩,
  rfl,e0.bare,Un.kept hk,⟨_,x.toInCall.ns,fun i y v h1 h2 h3=>?_⟩,fun y c h=>⟨_,x.cell y c h⟩,e0.hok.fresh (Ni _),fun y c h=>?_,fun p hp=>absurd (show p∈([]:List (Addr × Obj)) from hp) (by simp),e0.hok.kept hk,?_⟩
 ·exact name_of_addr x.apart (PH h1) (PH h2)
 ·have hy:scope.names.lookup y=some .cell\/scope.names.lookup y=some .free:=hy
  rcases hy with hy | hy
  ·exact vS hy
  ·exact absurd rfl (S.Hb _ (PH hy))
 ·exact RQ (x.above y c (PH h))
 ·have hi:i<vs.length:=by
   unfold start at h2
   by_cases hi:i<vs.length
   ·exact hi
   ·rw[Ny (by simpa using hi)] at h2
    rw[PJ] at h2
    split at h2<;>cases h2
  have ha:vs[i]?=some v:=by
   unfold start at h2
   rw[Nq (by simpa using hi),NN] at h2
   cases e:vs[i]? with
   | none=>rw[e] at h2;cases h2
   | some a=>rw[e] at h2;cases h2;rfl
  obtain⟨u,hu,rv⟩:=r.get ha
  have hp:ps[i]?=some y:=by
   rw[<- S.pre,List.getElem?_take_of_lt (by lia)];exact h1
  have ndP:ps.Nodup:=by rw[<- S.pre];exact S.nd.sublist (List.take_sublist _ _)
  refine⟨u,rv,?_⟩
  rcases S.par y (NP hp) with k | k
  ·exact .inl ⟨k,qW ndP hp hu k⟩
  ·obtain⟨c,e⟩:=vS (n:=s.heap.objs.size+1) k
   refine .inr ⟨.inl k,c,e,?_⟩
   have q:=x.cell y c e
   rw[qp ndP hp hu (by show scope.names.lookup y≠_;rw[k];decide)] at q
   exact q
 ·exact e0.hok.fresh (RQ (x.above y c (PH h)))
 ·unfold start
  show _=N.length
  rw[NY,Nw,QR]
  lia
theorem Ku {CX:CXT}{P:NC}{w:N4}{K:ab}{mg:Str->Option Ng}{base:Heap}{k:Nat}{f:Addr}{name qual:Str}{params:Sj}{body:List Stmt}{scope:Rh}{dV kV doc pm cdv ct oc:Ng}{an od:Option Addr}
  {osl:Array (Option Ng)} {N ps:List Str} {sp:Sp} (lk:K.lookup f=some ⟨oc,od,.func (Oh name qual params body scope dV kV doc pm an cdv ct),osl⟩) (hcd:PK K cdv qual=true) (S:aA N ps scope)
  (len:∀vs H Q E,sp vs H Q E->vs.length=ps.length)
  (hbody:∀(A:N1) (outer:List Env) (s:Nk) (H:Hp) (vs:List V) (Q:VK) (E:XK),eJ k (A.deeper (envOfC qual scope s.heap.objs.size f cdv))->sp vs H Q E →
   ∃t,PSs (jJ CX P w K mg base N qual scope f cdv A outer s H E) body t/\t { nx:=fun _ H'=>Q .non H',rt:=Q } (start N vs) H) :
  dJ P w K mg base CX (k+1) f (Oh name qual params body scope dV kV doc pm an cdv ct) ps sp:=by
 refine⟨len,fun A outer s H args us vs Q E hr e0 hb r hsp=>?_⟩
 have hl:=len _ _ _ _ hsp
 have KX:K.In s.heap:=e0.mod.kin.keeps fun b o e=>(e0.bs b o e).1
 have lim:s.heap.NoLimit:=e0.mod.nolimit.keeps fun b o e=>(e0.bs b o e).1
 have hkind:∀y∈ps.zip us,scope.names.lookup y.1=some .local\/(scope.names.lookup y.1=some .cell/\((cellsFrom (s.heap.objs.size+1) scope.names []).lookup y.1).isSome=true):=fun⟨n,v⟩ hy=>by
  rcases S.par n (Rj hy).1 with q | q
  ·grind
  ·exact .inr ⟨q,PL _ _ _ (.inl q)⟩
 refine codeAny_call_function hr.depth (KX _ _ lk) rfl S.co S.gen rfl (PySem.W.codeRec_of KX hcd) (hb _ _ _ _ ?_)
 refine wpAny_newFunctionEnv_cells S.kind hkind fun env he s1 x=>?_
 subst he
 refine⟨lim.keeps x.toInCall.keep,codeAny_func ?_⟩
 obtain⟨t,ht,hq⟩:=hbody A outer s H vs Q E (hr.deeper _) hsp
 have I:Inv (jJ CX P w K mg base N qual scope f cdv A outer s H E) [] (start N vs) H s1:=qq S hr.hd e0 hl r x
 refine Ov (ht [] s1 (start N vs) H _ I hq) (fun fl s' hs=>?_) fun e s' hs=>hs
 have fin:∀{σ':St} {H':Hp} {v:V} {u:Ng},Inv (jJ CX P w K mg base N qual scope f cdv A outer s H E) [] σ' H' s'->RelV v u->Q v H'->CE outer P w H s Q u s':=
  fun{σ' H' v u} J rv q=>⟨v,H',J.os,J.bare,J.base,J.hok,rv,q⟩
 cases fl with
 | ret u=>
  obtain⟨v,σ',H',J,rv,q⟩:=hs
  exact fin J rv q
 | next=>
  obtain⟨σ',H',J,q⟩:=hs
  exact fin (v:=V.non) (u:=OI) J rfl q
 | brk=>
  obtain⟨_,_,_,q⟩:=hs
  simp_all
 | cont=>
  obtain⟨_,_,_,q⟩:=hs
  simp_all
section
variable {X:Cx}{x:Str}{p pos:Pos}{e:Expr}{es:List Expr}{t:TA}{id T:String}{r:List V->Hp->VK->Prop}
noncomputable def tCB (r:List V->Hp->VK->Prop) (t:TA):TE:=fun σ H Q=>t σ H fun vs H1=>r vs H1 Q
theorem oW (hc:bB X (.builtin id) r) (hg:Gl X x) (hm:X.mg x=none) (hv:bootBuiltins x=some (.builtin id)) (ha:PA X (e::es) t) (hn:x≠"__name__" := by decide) (hdb:(x == ("__debug__" : Str))=false:=by decide)
  (he:starEach (e::es) X.env=(false,eval e X.env)::starEach es X.env:=by rfl) (hpl:(backTo pos (starEach es X.env)).any (·.1)=false:=by rfl):PE X (.Call (.Name x p) (e::es) [] pos) (tCB r t):=by
 intro pins s σ H Q I h
 refine Qs (kI I hg hm hv ?_ hn hdb)
 exact PyProof.Rows.callWith_builtin1 (thn (ha pos pins s σ H _ I h) fun us s1 ⟨vs,H1,I1,r1,q1⟩=>hc pins s1 σ H1 vs us Q I1 r1 q1) he hpl
theorem i7 (hc:bB X (.type T) r) (hg:Gl X x) (hm:X.mg x=none) (hv:bootBuiltins x=some (.type T)) (ha:PA X (e::es) t) (hn:x≠"__name__" := by decide) (hdb:(x == ("__debug__" : Str))=false:=by decide)
  (he:starEach (e::es) X.env=(false,eval e X.env)::starEach es X.env:=by rfl) (hpl:(backTo pos (starEach es X.env)).any (·.1)=false:=by rfl):PE X (.Call (.Name x p) (e::es) [] pos) (tCB r t):=by
 intro pins s σ H Q I h
 refine Qs (kI I hg hm hv ?_ hn hdb)
 exact Pc (thn (ha pos pins s σ H _ I h) fun us s1 ⟨vs,H1,I1,r1,q1⟩=>hc pins s1 σ H1 vs us Q I1 r1 q1) he hpl
end
end L2
namespace HT
open PySem PyProof.Rows
section
variable {prog:NC}{w:N4}{A:N1}{E:Ng->Nk->Prop}{s:Nk}
theorem Dl (ht:Ti s.heap t vs.toArray) (hb:Ti s.heap b ws.toArray) (hv:vs≠[])
  (h1:ws=[]->Q (.ref t) s) (h2:ws≠[]->Q (.ref s.heap.objs.size) { s with heap:=s.heap.push { cls:=.type "tuple", data:=.seq (vs++ws).toArray } })
  (hsz:vs.length+ws.length<=sizeLine):wpAny (model prog w) A (binaryOp .Add (.ref t) (.ref b)) Q E s:=by
 obtain⟨⟨cls,dd,data,sl⟩,ho,hc,n,hd⟩:=id ht
 obtain⟨⟨cls2,dd2,data2,sl2⟩,ho2,hc2,n2,hd2⟩:=id hb
 simp only at hc hd hc2 hd2
 subst hc hd hc2 hd2
 have e:vs.toArray++ws.toArray=(vs++ws).toArray:=by simp
 by_cases hw:ws=[]
 ·exact Su ⟨_,ho,rfl⟩ ⟨_,ho2,rfl⟩ RL Sk QC Qt (Qo _ _)
   (tuple_addW1 t b vs.toArray ws.toArray n n2 dd dd2 sl sl2 (by simp_all) (by simp[hw])) ⟨ho,ho2,h1 hw⟩
 ·refine Su ⟨_,ho,rfl⟩ ⟨_,ho2,rfl⟩ RL Sk QC Qt (Qo _ _)
   (tuple_addW2 t b vs.toArray ws.toArray n n2 dd dd2 sl sl2 (by simp_all) (by simp_all) (by omega)) ⟨ho,ho2,?_⟩
  simp_all
noncomputable def sIx (n d:Nat):Option Int->Nat
 | none=>d
 | some v=>if v<0 then (v+(n:Int)).toNat else min v.toNat n
theorem vh (n d):sIx n d none=d:=rfl
theorem xG (n d k:Nat):sIx n d (some (k:Int))=min k n:=by
 rfl
theorem FJ (n d) (hd:d<=n) (o):sIx n d o<=n:=by
 cases o with
 | none=>exact hd
 | some v=>
  show(if v<0 then (v+(n:Int)).toNat else min v.toNat n)<=n
  grind
theorem yF (v) (n d:Nat):(if v<0 then max (v+(n:Int)) 0 else min v (n:Int))=((sIx n d (some v):Nat):Int):=by
 show(if v<0 then max (v+(n:Int)) 0 else min v (n:Int))=(((if v<0 then (v+(n:Int)).toNat else min v.toNat n):Nat):Int)
 grind
theorem wU (lo hi) (n:Nat):Qb lo hi 1 (n:Int)=(((sIx n 0 lo:Nat):Int),((sIx n n hi:Nat):Int)):=by
 have h1:¬ ((1:Int)<0):=by lia
 unfold Qb
 simp only[h1,if_false]
 refine Prod.ext ?_ ?_
 ·cases lo with
  | none=>rfl
  | some v=>exact yF v n 0
 ·cases hi with
  | none=>rfl
  | some v=>exact yF v n n
theorem xo (i j:Nat):Pl (i:Int) (j:Int) 1=j - i:=by
 unfold Pl
 have h1:(1:Int) > 0:=by lia
 simp only[h1,if_true,Int.ediv_one]
 split<;>lia
theorem ni (p:Sl v o) (h:Q o s):wpAny (model prog w) A (Oo.Slice.slicePartIndex v) Q E s:=by
 cases p with
 | none=>exact slicePart_none h
 | int i t=>exact slicePart_int h
theorem gL {sl:Addr}{vl vu:Ng}{lo hi:Option Int}{n:Nat}{Q:Int × Int × Nat->Nk->Prop} (hs:s.heap.IsSliceOf sl vl vu .none) (pl:Sl vl lo) (pu:Sl vu hi)
  (h:Q (((sIx n 0 lo:Nat):Int),1,sIx n n hi - sIx n 0 lo) s):wpAny (model prog w) A (Oo.Slice.sliceApplied (.ref sl) (pure (n:Int))) Q E s:=by
 obtain⟨os,hos,hcs,hds⟩:=id hs
 unfold Oo.Slice.sliceApplied Oo.Slice.sliceFields
 refine gV (gV (QH hos hds (x:=vl) rfl (gV (QH hos hds (x:=vu) rfl (gV (QH hos hds (x:=.none) rfl (k5 ?_)))))))
 refine gV (slicePart_none ?_)
 show wpAny _ _ (if ((1:Int) == 0)=true then _ else _) _ _ s
 rw[if_neg (by decide)]
 refine gV (ni pl (gV (ni pu (gV (k5 ?_)))))
 show wpAny _ _ (match Qb lo hi 1 (n:Int) with | (lo,hi)=>pure (lo,(1:Int),Pl lo hi 1)) _ _ s
 rw[wU lo hi n]
 show wpAny _ _ (pure (((sIx n 0 lo:Nat):Int),(1:Int),Pl ((sIx n 0 lo:Nat):Int) ((sIx n n hi:Nat):Int) 1)) _ _ s
 rw[xo]
 exact k5 h
theorem BB (xs:Array Ng) (i k:Nat):((Nj k).filterMap fun(m:Nat)=>xs[((i:Int)+(m:Int)*1).toNat]?).toArray=((xs.toList.drop i).take k).toArray:=by
 have e:(fun(m:Nat)=>xs[((i:Int)+(m:Int)*1).toNat]?)=fun m=>xs[i+m]?:=by
  funext m
  have:((i:Int)+(m:Int)*1).toNat=i+m:=by lia
  rw[this]
 rw[e]
 have:=pick_run xs i k
 rw[List.filterMap_map] at this
 have e2:((fun x=>xs[x]?) ∘ fun x=>i+x)=fun m=>xs[i+m]?:=rfl
 rw[e2] at this
 rw[this]
theorem kr {t sl:Addr}{items:Array Ng}{vl vu:Ng}{lo hi:Option Int}{Q:Ng->Nk->Prop} (ht:Ti s.heap t items) (hs:s.heap.IsSliceOf sl vl vu .none) (pl:Sl vl lo) (pu:Sl vu hi)
  (hw:¬ (sIx items.size 0 lo=0/\sIx items.size items.size hi=items.size))
  (h:Q (.ref s.heap.objs.size) { s with heap:=s.heap.push { cls:=.type "tuple", data:=.seq ((items.toList.drop (sIx items.size 0 lo)).take (sIx items.size items.size hi - sIx items.size 0 lo)).toArray } })
  (hsz:items.size<=sizeLine):wpAny (model prog w) A (getItem (.ref t) (.ref sl)) Q E s:=by
 have htake:sizeOk (.seq ((items.toList.drop (sIx items.size 0 lo)).take (sIx items.size items.size hi - sIx items.size 0 lo)).toArray):=by
  show((items.toList.drop (sIx items.size 0 lo)).take (sIx items.size items.size hi - sIx items.size 0 lo)).toArray.size<=sizeLine
  rw[NB,NH,Qf,Nu]
  lia
 have hj:sIx items.size items.size hi<=items.size:=FJ _ _ (Ni _) hi
 obtain⟨os,hos,hcs,hds⟩:=id hs
 have hTs:s.TypeIs (.ref sl) "slice" := ⟨os,hos,hcs⟩
 unfold getItem
 try with_reducible refine Oe ?_
 first | refine gV (k5 ?_) | skip
 refine gV (wpAny_sequenceKey ht.typeIs (by decide) ?_)
 refine gV (OP (name:=Str.ofString "__getitem__") ht.typeIs Oa
  (OE Oa ht.typeIs entry_tuple_getitem ?_ (args_tuple_getitem _ _)))
 show wpAny _ _ (Oo.Tuple.tupleItemsOf (.ref t) >>= _) _ _ s
 refine gV (tupleItemsOf_ ht ?_)
 refine gV (Rt hTs ?_)
 rw[if_pos (by decide)]
 refine gV (gL hs pl pu ?_)
 have hno:¬ ((((sIx items.size 0 lo:Nat):Int) == 0&&(1:Int) == 1&&(sIx items.size items.size hi - sIx items.size 0 lo) == items.size)=true):=by
  intro q
  rw[NQ,NQ] at q
  have q1:((sIx items.size 0 lo:Nat):Int)=0:=eq_of_beq q.1.1
  have q2:sIx items.size items.size hi - sIx items.size 0 lo=items.size:=eq_of_beq q.2
  exact hw ⟨by lia,by lia⟩
 show wpAny _ _ (if (((sIx items.size 0 lo:Nat):Int) == 0&&(1:Int) == 1&&(sIx items.size items.size hi - sIx items.size 0 lo) == items.size)=true then _ else _) _ _ s
 rw[if_neg hno,BB]
 first
  | exact gV (m:=Pw _) (N_ (k5 ⟨_,rfl,k5 h⟩) htake)
  | exact gV (m:=Pw _) (N_ (gV (k5 (k5 ⟨_,rfl,k5 h⟩))) htake)
  | exact gV (gV (m:=Pw _) (N_ (k5 (k5 ⟨_,rfl,k5 h⟩)) htake))
  | exact gV (gV (m:=Pw _) (N_ (k5 ⟨_,rfl,k5 h⟩) htake))
end
end HT
namespace L2
open PySem PySem.Spec PyProof.Rows
noncomputable abbrev TO:=St->Hp->(Option Int->Hp->Prop)->Prop
noncomputable def PO (X:Cx) (e:Option Expr) (t:TO):Prop:=
 ∀pins s (σ:St) H Q , Inv X pins σ H s->t σ H Q →
  wpAny (model X.prog X.w) X.A (evalPart e X.env) (fun u s'=>∃o H',Inv X pins σ H' s'/\Sl u o/\Q o H') X.xe s
noncomputable def EB:TO:=fun _ H Q=>Q none H
noncomputable def Je (t:TE):TO:=fun σ H Q=>t σ H fun x H1=>∃i,x=.int i/\Q (some i) H1
theorem intsAre_of:∀{us:List Ng},Vals (ns.map V.int) us->IntsAre us ns:=by
 induction ns with
 | nil=>intro us r;rw[RS] at r;cases r;exact .nil
 | cons n ns ih=>
  intro us r
  rw[ND] at r
  cases r with
  | cons r1 r2=>
   obtain⟨t,e⟩:=r1
   subst e
   exact .cons n t (ih r2)
section
variable {X:Cx}{e:Expr}{te:TE}{lo hi:Option Expr}{tl th:TO}{pos p2:Pos}
theorem DS:PO X none EB:=by
 intro pins s σ H Q I h
 rw[evalPart_none]
 exact k5 ⟨none,H,I,.none,h⟩
theorem Ed (h:PE X e te):PO X (some e) (Je te):=by
 intro pins s σ H Q I hw
 rw[evalPart_some]
 refine thn (h pins s σ H _ I hw) fun u s1 ⟨x,H1,I1,r1,q1⟩=>?_
 obtain⟨i,rfl,q⟩:=q1
 obtain⟨t,rfl⟩:=r1
 exact⟨some i,H1,I1,.int i t,q⟩
noncomputable def SlR (X:Cx) (r:V->Option Int->Option Int->Hp->VK->Prop):Prop:=
 ∀pins s (σ:St) H x v vl vu lo hi sl Q , Inv X pins σ H s->RelV x v->s.heap.IsSliceOf sl vl vu .none->Sl vl lo->Sl vu hi->r x lo hi H Q →
  ∃T id,typeLookup (.type T) "__getitem__" = pure (some (.builtin id))/\s.TypeIs v T/\wpAny (model X.prog X.w) X.A (getItem v (.ref sl)) (EP X pins σ Q) X.xe s
theorem SlR.or (h:SlR X r) (h':SlR X r'):SlR X (fun x lo hi H Q=>r x lo hi H Q\/r' x lo hi H Q):=by
 intro pins s σ H x v vl vu lo hi sl Q I rx hs pl pu q
 rcases q with q | q
 ·exact h pins s σ H x v vl vu lo hi sl Q I rx hs pl pu q
 ·exact h' pins s σ H x v vl vu lo hi sl Q I rx hs pl pu q
noncomputable def tSl (r:V->Option Int->Option Int->Hp->VK->Prop) (te:TE) (tl th:TO):TE:=fun σ H Q=>te σ H fun x H1=>tl σ H1 fun l H2=>th σ H2 fun u H3=>r x l u H3 Q
theorem A0 {r:V->Option Int->Option Int->Hp->VK->Prop} (hr:SlR X r) (he:PE X e te) (hl:PO X lo tl) (hu:PO X hi th):PE X (.Subscript e (.Slice lo hi none p2) pos) (tSl r te tl th):=by
 intro pins s σ H Q I h
 refine SR (thn (he pins s σ H _ I h) fun v s1 ⟨x,H1,I1,r1,q1⟩=>?_)
 refine wpAny_Slice (thn (hl pins s1 σ H1 _ I1 q1) fun vl s2 ⟨l,H2,I2,pl,q2⟩=>thn (hu pins s2 σ H2 _ I2 q2) fun vu s3 ⟨u,H3,I3,pu,q3⟩=>?_)
 rw[evalPart_none]
 refine k5 ?_
 have I4:Inv X pins σ H3 { s3 with heap:=s3.heap.push { cls:=.type "slice", data:=.fields #[vl,vu,.none] } }:=I3.kept (t':=s3.toks) fun b ob q=>k3 _ q
 obtain⟨T,id,hT,ht,hg⟩:=hr pins { s3 with heap:=s3.heap.push { cls:=.type "slice", data:=.fields #[vl,vu,.none] } } σ H3 x v vl vu l u s3.heap.objs.size Q I4 r1 (Heap.IsSliceOf.new ..) pl pu q3
 show wpAny (model X.prog X.w) X.A (subscriptTail e (.Slice lo hi none p2) v (.ref s3.heap.objs.size)) (EP X pins σ Q) X.xe { s3 with heap:=s3.heap.push { cls:=.type "slice", data:=.fields #[vl,vu,.none] } }
 exact tail_any (ops:=[.ref s3.heap.objs.size,v]) ht hT hg (by rfl)
noncomputable def pN (xs:List V) (lo hi:Option Int):List V:=(xs.drop (HT.sIx xs.length 0 lo)).take (HT.sIx xs.length xs.length hi - HT.sIx xs.length 0 lo)
theorem lR (xs:List V) (lo hi:Option Int):(pN xs lo hi).length<=xs.length:=by
 unfold pN
 rw[NH,Qf]
 lia
noncomputable def KQ (K:ab):V->Option Int->Option Int->Hp->VK->Prop:=fun x lo hi H Q=>∃a xs,x=.ref a/\SqT K H a xs ∧
 ¬ (HT.sIx xs.length 0 lo=0/\HT.sIx xs.length xs.length hi=xs.length)/\∀p,H p=none->Q (.ref p) (upd H p (.tup (pN xs lo hi)))
theorem Fj:SlR X (KQ X.K):=by
 intro pins s σ H x v vl vu lo hi sl Q I rx hs pl pu h
 obtain⟨a,xs,rfl,hx,hw,q⟩:=h
 cases rx
 obtain⟨its,r,ht,hz⟩:=I.tuple hx
 have hlen:its.toArray.size=xs.length:=by rw[NB];exact r.length.symm
 refine⟨"tuple", _,Oa.lookup,ht.typeIs,?_⟩
 refine HT.kr ht hs pl pu (by rw[hlen];exact hw) ?_ (by rw[hlen];exact hz)
 rw[hlen]
 refine⟨.ref s.heap.objs.size,_,I.laid (t':=s.toks) (o:=.tup (pN xs lo hi)) (fun b ob q=>k3 _ q) (Ni _) ?_,rfl,q _ (I.hok.fresh (Ni _))⟩
 exact⟨NT (lR xs lo hi) hz,_,(r.drop (HT.sIx xs.length 0 lo)).take (HT.sIx xs.length xs.length hi - HT.sIx xs.length 0 lo),ng.new _ _⟩
noncomputable def E4 (K:ab):R2:=fun x y H Q=>∃a b xs ys,x=.ref a/\y=.ref b/\SqT K H a xs/\SqT K H b ys/\xs≠[]/\xs.length+ys.length<=sizeLine ∧
 (ys=[]->Q (.ref a) H)/\(ys≠[]->∀p,H p=none->Q (.ref p) (upd H p (.tup (xs++ys))))
theorem Vals.rB (r:Vals xs us):us=[]↔xs=[]:=by
 cases r with
 | nil=>simp
 | cons _ _=>simp
theorem DH:OpR X (binaryOp .Add) (E4 X.K):=by
 intro pins s σ H x y v u Q I rx ry h
 obtain⟨a,b,xs,ys,rfl,rfl,ha,hb,hx,hz,q1,q2⟩:=h
 cases rx
 cases ry
 obtain⟨its,r1,p1,_⟩:=I.tuple ha
 obtain⟨its2,r2,p2,_⟩:=I.tuple hb
 refine HT.Dl p1 p2 (fun z=>hx (r1.rB.mp z)) (fun z=>⟨.ref a,H,I,rfl,q1 (r2.rB.mp z)⟩) (fun z=>?_) (by rw[<- r1.length,<- r2.length];exact hz)
 refine⟨.ref s.heap.objs.size,_,I.laid (t':=s.toks) (o:=.tup (xs++ys)) (fun b ob q=>k3 _ q) (Ni _) ?_,rfl,q2 (fun w=>z (r2.rB.mpr w)) _ (I.hok.fresh (Ni _))⟩
 exact⟨by simp_all,_,r1.append r2,ng.new _ _⟩
end
noncomputable def ixN (n:Nat) (i:Int):Option Nat:=if 0<=i then (if i<n then some i.toNat else none) else if -(n:Int)<=i then some (i+n).toNat else none
noncomputable def atI {α:Type} (xs:List α) (i:Int):Option α:=(ixN xs.length i).bind fun j=>xs[j]?
theorem rK (h:ixN n i=some j):seqIndex? i n=some j/\j<n/\-(n:Int)<=i/\i<n:=by
 unfold ixN at h
 by_cases h0:0<=i
 ·rw[if_pos h0] at h
  by_cases h1:i<n
  ·rw[if_pos h1] at h
   have e:i.toNat=j:=N5 h
   exact⟨by rw[Se h0 h1,e],by lia,by lia,h1⟩
  simp_all
 ·rw[if_neg h0] at h
  by_cases h1:-(n:Int)<=i
  ·rw[if_pos h1] at h
   have e:(i+n).toNat=j:=N5 h
   exact⟨by rw[RT (by lia) h1,e],by lia,h1,by lia⟩
  simp_all
theorem mX (h:atI xs i=some v):∃j,seqIndex? i xs.length=some j/\xs[j]?=some v/\j<xs.length/\-(xs.length:Int)<=i/\i<xs.length:=by
 unfold atI at h
 cases e:ixN xs.length i with
 | none=>simp_all
 | some j=>
  rw[e] at h
  obtain⟨h1,h2,h3,h4⟩:=rK e
  simp_all
theorem D2 {j:Nat}{v:α} (h:xs[j]?=some v):atI xs (j:Int)=some v:=by
 have hj:j<xs.length:=(NV.mp h).1
 have e:ixN xs.length (j:Int)=some j:=by
  unfold ixN
  simp_all
 unfold atI;simp_all
noncomputable def yA (b:Expr):Prop:=∀o i,subscripted b false o i=operate [o,i] (getItem o i)
noncomputable def IxR (X:Cx) (r:R2):Prop:=
 ∀value slice pins s (σ:St) H x y v u Q , Inv X pins σ H s->RelV x v->RelV y u->r x y H Q →
  subscripted slice false v u=operate [v,u] (getItem v u)->wpAny (model X.prog X.w) X.A (subscriptTail value slice v u) (EP X pins σ Q) X.xe s
noncomputable def MtR (X:Cx) (id:String) (r:V->List V->Hp->VK->Prop):Prop:=
 ∀pins s (σ:St) H x xs v us Q , Inv X pins σ H s->RelV x v->Vals xs us->r x xs H Q →
  wpAny (model X.prog X.w) X.A (call (.builtin id) (v::us)) (EP X pins σ Q) X.xe s
section
variable {X:Cx}{a b:Expr}{ta tb:TE}{pos:Pos}
theorem IxR.or (h:IxR X r) (h':IxR X r'):IxR X (fun x y H Q=>r x y H Q\/r' x y H Q):=by
 intro value slice pins s σ H x y v u Q I rx ry q hs
 rcases q with q | q
 ·exact h value slice pins s σ H x y v u Q I rx ry q hs
 ·exact h' value slice pins s σ H x y v u Q I rx ry q hs
theorem JO (hr:IxR X r) (ha:PE X a ta) (hb:PE X b tb) (hs:yA b):PE X (.Subscript a b pos) (tOp r ta tb):=by
 intro pins s σ H Q I h
 exact SR (GP ha hb I h fun v u s2 x y H2 I2 rx ry q=>hr a b pins s2 σ H2 x y v u Q I2 rx ry q (hs _ _))
noncomputable def HX (K:ab):R2:=fun x y H Q=>∃p xs i v,x=.ref p/\y=.int i/\SqL K H p xs/\atI xs i=some v/\Q v H
noncomputable def IE (K:ab):R2:=fun x y H Q=>∃p xs i v,x=.ref p/\y=.int i/\SqT K H p xs/\atI xs i=some v/\Q v H
noncomputable def Jd:R2:=fun x y H Q=>∃z i c,x=.str z/\y=.int i/\z.length<=sizeLine/\atI z.cps.toList i=some c/\Q (.str ⟨#[c]⟩) H
theorem DK:IxR X (HX X.K):=by
 intro value slice pins s σ H x y v u Q I rx ry h hs
 obtain⟨p,xs,i,z,rfl,rfl,hq,he,q⟩:=h
 cases rx
 obtain⟨t,rfl⟩:=ry
 obtain⟨its,r,pl,hz⟩:=I.list hq
 obtain⟨j,h1,h2,h3,h4,h5⟩:=mX he
 obtain⟨w,ew,rw'⟩:=r.get h2
 have hl:=r.length
 have hn:=iO
 have fin:EP X pins σ Q w s:=⟨z,H,I,rw',q⟩
 by_cases h0:0<=i
 ·have hj:i.toNat=j:=by
   rw[Se h0 h5] at h1
   simp_all
  exact item_listR pl.isList h0 (by lia) (by simp_all) fin hs
 ·have hj:(i+(its.toArray.size:Int)).toNat=j:=by
   rw[RT (by lia) h4] at h1
   simp_all
  exact subscriptTail_builtinR (x:=w) pl.isList.typeIs slot_list_getitem.lookup
   (wpAny_getItem_list_neg (Q:=fun r s'=>r=w/\EP X pins σ Q r s') pl.isList (by lia) (by simp_all) (by lia) (by simp_all) ⟨rfl,fin⟩) hs
theorem Hr:IxR X (IE X.K):=by
 intro value slice pins s σ H x y v u Q I rx ry h hs
 obtain⟨p,xs,i,z,rfl,rfl,hq,he,q⟩:=h
 cases rx
 obtain⟨t,rfl⟩:=ry
 obtain⟨its,r,pl,hz⟩:=I.tuple hq
 obtain⟨j,h1,h2,h3,h4,h5⟩:=mX he
 obtain⟨w,ew,rw'⟩:=r.get h2
 have hl:=r.length
 have hn:=iO
 have fin:EP X pins σ Q w s:=⟨z,H,I,rw',q⟩
 exact subscriptTail_builtinR (x:=w) pl.typeIs slot_tuple_getitem.lookup
  (getItem_tuple (j:=j) (Q:=fun r s'=>r=w/\EP X pins σ Q r s') pl (by lia) (by lia) (by simp_all) (by simp_all) ⟨rfl,fin⟩) hs
theorem FR:IxR X Jd:=by
 intro value slice pins s σ H x y v u Q I rx ry h hs
 obtain⟨z,i,c,rfl,rfl,hz,he,q⟩:=h
 obtain⟨t,rfl⟩:=rx
 obtain⟨t',rfl⟩:=ry
 obtain⟨j,h1,h2,h3,h4,h5⟩:=mX he
 have hl:z.cps.toList.length=z.length:=by rfl
 rw[hl] at h1 h4 h5
 have hn:=iO
 exact tail_any (typeIs_str s z t) slot_str_getitem.lookup (getItem_str (c:=c) (by
  grind) (by simp_all) ⟨.str ⟨#[c]⟩,H,I.tok _,⟨_,rfl⟩,q⟩) hs
noncomputable def rIx (K:ab):R2:=fun x y H Q=>HX K x y H Q\/IE K x y H Q\/Jd x y H Q
theorem HU:IxR X (rIx X.K):=DK.or (Hr.or FR)
theorem wz (its:List Ng) (n j) (u):OU (·.setIfInBounds j u) { cls:=.type "list", data:=.seq its.toArray n }={ cls:=.type "list", data:=.seq (its.set j u).toArray n }:=by
 simp[OU]
theorem Inv.lst {σ:St}{H:Hp}{s:Nk}{p:Addr}{xs:List V} (I:Inv X pins σ H s) (h:H p=some (.lst xs)) :
  ∃its n,Vals xs its/\s.heap.get? p=some { cls:=.type "list", data:=.seq its.toArray n }/\xs.length<=sizeLine:=by
 obtain⟨z,its,n,r,e⟩:=I.hok p _ h
 simp_all
theorem Inv.G9 {σ:St}{its its':List Ng} (I:Inv X pins σ H s) (h:H p=some (.lst xs))
  (ho:s.heap.get? p=some { cls:=.type "list", data:=.seq its.toArray n }) (hf:f { cls:=.type "list", data:=.seq its.toArray n }={ cls:=.type "list", data:=.seq its'.toArray n' }) (r:Vals ys its') (hz:ys.length<=sizeLine) (t) :
  Inv X pins σ (upd H p (.lst ys)) { s with heap:=s.heap.update p f,toks:=t }:=by
 have e:(s.heap.update p f).get? p=some { cls:=.type "list", data:=.seq its'.toArray n' }:=by
  rw[PV f ho (by rw[hf]<;>rfl),hf]
 refine I.write (x:=p) (e:=p) (by rw[h];trivial) (.inl rfl) (fun b u hb q=>(Heap.get?_update_other _ _ (Sd hb)).trans q) ⟨_,e⟩ ?_
 exact⟨hz,its',n',r,e⟩
noncomputable def EK:V->V->V->Hp->(Hp->Prop)->Prop:=fun o i v H Q=>∃p xs k j,o=.ref p/\i=.int k/\H p=some (.lst xs)/\ixN xs.length k=some j/\Q (upd H p (.lst (xs.set j v)))
theorem set_list:CY X EK:=by
 intro pins s σ H o i v ov iv u Q I ro ri rv h
 obtain⟨p,xs,k,j,rfl,rfl,hp,hj,q⟩:=h
 cases ro
 obtain⟨t,rfl⟩:=ri
 obtain⟨its,n,r,ho,hz⟩:=I.lst hp
 obtain⟨h1,h2,h3,h4⟩:=rK hj
 have hl:=r.length
 have hn:=iO
 have I':Inv X pins σ (upd H p (.lst (xs.set j v))) { s with heap:=s.heap.update p (OU (·.setIfInBounds j u)) }:=
  I.G9 hp ho (wz its n j u) (r.set rv j) (by rw[PX];exact hz) s.toks
 by_cases h0:0<=k
 ·have hk:k.toNat=j:=by
   rw[Se h0 h4] at h1
   exact N5 h1
  exact PySem.W.ki_setAt ho h0 (by lia) (by rw[NB,<- hl];exact h4) (by rw[hk];exact⟨_,I',q⟩)
 ·have hk:(k+(its.toArray.size:Int)).toNat=j:=by
   rw[RT (by lia) h3] at h1
   rw[NB,<- hl]
   exact N5 h1
  exact PySem.W.ki_setBack ho (by lia) (by rw[NB,<- hl];exact h3) (by lia) (by rw[hk];exact⟨_,I',q⟩)
theorem rM (lo hi:Option Int) (n:Nat):(sliceBounds lo hi none n).1=((HT.sIx n 0 lo:Nat):Int)/\(sliceBounds lo hi none n).2.1=((HT.sIx n n hi:Nat):Int)/\(sliceBounds lo hi none n).2.2=1:=by
 refine⟨?_,?_,rfl⟩
 ·cases lo with
  | none=>rfl
  | some i=>
   simp only[sliceBounds,HT.sIx,Option.getD_none,show(1:Int) > 0 by decide,if_true]
   grind
 ·cases hi with
  | none=>rfl
  | some i=>
   simp only[sliceBounds,HT.sIx,Option.getD_none,show(1:Int) > 0 by decide,if_true]
   grind
theorem pJ (its:List Ng) (lo hi):slicePick its.toArray lo hi none=((its.drop (HT.sIx its.length 0 lo)).take (HT.sIx its.length its.length hi - HT.sIx its.length 0 lo)).toArray:=by
 obtain⟨h1,h2,h3⟩:=rM lo hi its.toArray.size
 unfold slicePick
 rw[h1,h2,h3]
 simp only[sliceRange_one,pick_run,NB]<;>rfl
noncomputable def L8 (K:ab):V->Option Int->Option Int->Hp->VK->Prop:=fun x lo hi H Q=>∃a xs,x=.ref a/\SqL K H a xs/\∀p,H p=none->Q (.ref p) (upd H p (.lst (pN xs lo hi)))
theorem C6:SlR X (L8 X.K):=by
 intro pins s σ H x v vl vu lo hi sl Q I rx hs pl pu h
 obtain⟨a,xs,rfl,hx,q⟩:=h
 cases rx
 obtain⟨its,r,ht,hz⟩:=I.list hx
 have hlen:=r.length
 refine⟨"list", _,slot_list_getitem.lookup,ht.isList.typeIs,?_⟩
 refine wpAny_getItem_list_slice ht.isList hs pl pu .none (by simp) ?_ (by simp_all)
 rw[pJ,<- hlen]
 refine⟨.ref s.heap.objs.size,_,I.laid (t':=s.toks) (o:=.lst (pN xs lo hi)) (fun b ob q=>k3 _ q) (Ni _) ?_,rfl,q _ (I.hok.fresh (Ni _))⟩
 exact⟨NT (lR xs lo hi) hz,_,0,(r.drop (HT.sIx xs.length 0 lo)).take (HT.sIx xs.length xs.length hi - HT.sIx xs.length 0 lo),Nm _ rfl⟩
noncomputable def jq:V->Bool
 | .non=>true
 | .bl _=>true
 | .int _=>true
 | .str _=>true
 | _=>false
noncomputable def eqV:V->V->Bool
 | .non,.non=>true
 | .bl a,.bl b=>a == b
 | .bl a,.int b=>(if a then 1 else 0) == b
 | .int a,.bl b=>a == (if b then 1 else 0)
 | .int a,.int b=>a == b
 | .str a,.str b=>a == b
 | _,_=>false
theorem Gx (ry:RelV y u) (rx:RelV x v) (fy:jq y=true) (fx:jq x=true):Om A s u v (eqV y x):=by
 cases y with
 | non=>
  cases ry
  cases x with
  | non=>cases rx;exact Om.same _
  | bl b=>cases rx;exact Om.none_bool b
  | int b=>obtain⟨t,rfl⟩:=rx;exact Om.none_int b t
  | str b=>obtain⟨t,rfl⟩:=rx;exact Om.none_str b t
  | _=>exact absurd (show false=true from fx) NK
 | bl a=>
  cases ry
  cases x with
  | non=>cases rx;exact Om.bool_none a
  | bl b=>cases rx;exact Om.bool_bool a b
  | int b=>obtain⟨t,rfl⟩:=rx;exact Om.bool_int a b t
  | str b=>obtain⟨t,rfl⟩:=rx;exact Om.bool_str a b t
  | _=>exact absurd (show false=true from fx) NK
 | int a=>
  obtain⟨t',rfl⟩:=ry
  cases x with
  | non=>cases rx;exact Om.int_none a t'
  | bl b=>cases rx;exact Om.int_bool a t' b
  | int b=>obtain⟨t,rfl⟩:=rx;exact Om.int_int a t' b t
  | str b=>obtain⟨t,rfl⟩:=rx;exact Om.int_str a t' b t
  | _=>exact absurd (show false=true from fx) NK
 | str a=>
  obtain⟨t',rfl⟩:=ry
  cases x with
  | non=>cases rx;exact Om.str_none a t'
  | bl b=>cases rx;exact Om.str_bool a t' b
  | int b=>obtain⟨t,rfl⟩:=rx;exact Om.str_int a t' b t
  | str b=>obtain⟨t,rfl⟩:=rx;exact Om.str_str a t' b t
  | _=>exact absurd (show false=true from fx) NK
 | _=>exact absurd (show false=true from fy) NK
noncomputable def eqU (x:V) (u:Ng):Bool:=match u with
 | .none=>eqV .non x
 | .bool b=>eqV (.bl b) x
 | .int i _=>eqV (.int i) x
 | .str z _=>eqV (.str z) x
 | _=>false
theorem BO (r:RelV y u) (f:jq y=true):eqU x u=eqV y x:=by
 cases y with
 | non=>cases r;rfl
 | bl b=>cases r;rfl
 | int i=>obtain⟨t,rfl⟩:=r;rfl
 | str z=>obtain⟨t,rfl⟩:=r;rfl
 | _=>exact absurd (show false=true from f) NK
theorem kh {x:V}:∀{xs:List V}{us:List Ng},Vals xs us->xs.all jq=true->us.any (eqU x)=xs.any fun y=>eqV y x
 | _,_,.nil,_=>rfl
 | y::xs,u::us,.cons r t,f=>by
  rw[Qu,NQ] at f
  rw[O6,O6,BO r f.1,kh t f.2]
theorem iH {A:N1}{s:Nk}{x:V}{v:Ng} (rx:RelV x v) (fx:jq x=true):∀{xs:List V}{us:List Ng},Vals xs us->xs.all jq=true->∀u∈us,Om A s u v (eqU x u)
 | _,_,.nil,_=>fun u hu=>by cases hu
 | y::xs,u::us,.cons r t,f=>fun u' hu=>by
  rw[Qu,NQ] at f
  rcases Nx.mp hu with rfl | hu
  ·rw[BO r f.1];exact Gx r rx f.1 fx
  ·exact iH rx fx t f.2 u' hu
noncomputable def inV (x:V) (xs:List V):Bool:=xs.any fun y=>eqV y x
noncomputable def rIn (K:ab) (neg:Bool):R2:=fun x y H Q=>∃p xs,y=.ref p/\(SqL K H p xs\/SqT K H p xs)/\jq x=true/\xs.all jq=true/\Q (.bl (if neg then !inV x xs else inV x xs)) H
theorem Aj:OpR X (compareOp .In) (rIn X.K false):=by
 intro pins s σ H x y v u Q I rx ry h
 obtain⟨p,xs,rfl,hq,fx,fs,q⟩:=h
 cases ry
 rcases hq with hq | hq
 ·obtain⟨its,r,pl,hz⟩:=I.list hq
  refine SeqAt.in_listAt (eqU x) pl.isList (fun w hw=>iH rx fx r fs w (by simp_all)) ⟨.bl _,H,I,rfl,?_⟩
  rw[show its.toArray.any (eqU x)=its.any (eqU x) by simp,kh r fs]
  exact q
 ·obtain⟨its,r,pl,hz⟩:=I.tuple hq
  refine SeqAt.in_tupleAt (eqU x) pl (fun w hw=>iH rx fx r fs w (by simp_all)) ⟨.bl _,H,I,rfl,?_⟩
  rw[show its.toArray.any (eqU x)=its.any (eqU x) by simp,kh r fs]
  exact q
theorem h_:OpR X (compareOp .NotIn) (rIn X.K true):=by
 intro pins s σ H x y v u Q I rx ry h
 obtain⟨p,xs,rfl,hq,fx,fs,q⟩:=h
 cases ry
 rcases hq with hq | hq
 ·obtain⟨its,r,pl,hz⟩:=I.list hq
  refine SeqAt.notIn_listAt (eqU x) pl.isList (fun w hw=>iH rx fx r fs w (by simp_all)) ⟨.bl _,H,I,rfl,?_⟩
  rw[show its.toArray.any (eqU x)=its.any (eqU x) by simp,kh r fs]
  exact q
 ·obtain⟨its,r,pl,hz⟩:=I.tuple hq
  refine SeqAt.notIn_tupleAt (eqU x) pl (fun w hw=>iH rx fx r fs w (by simp_all)) ⟨.bl _,H,I,rfl,?_⟩
  rw[show its.toArray.any (eqU x)=its.any (eqU x) by simp,kh r fs]
  exact q
theorem rR:bB X (.builtin "len") (fun xs H Q=>∃p ys,xs=[.ref p]/\(SqL X.K H p ys\/SqT X.K H p ys)/\Q (.int ys.length) H):=by
 intro pins s σ H xs us Q I r h
 obtain⟨p,ys,rfl,hq,q⟩:=h
 obtain⟨u,rfl,rx⟩:=vals1 r
 cases rx
 have hn:=iO
 rcases hq with hq | hq
 ·obtain⟨its,r',pl,hz⟩:=I.list hq
  have hlen:=r'.length
  exact Calls.call_len_list pl.isList (by grind) ⟨.int ys.length,H,I.tok _,⟨s.toks+1,by simp_all⟩,q⟩
 ·obtain⟨its,r',pl,hz⟩:=I.tuple hq
  have hlen:=r'.length
  exact len_tuple pl (by grind) ⟨.int ys.length,H,I.tok _,⟨s.toks+1,by simp_all⟩,q⟩
theorem sf:bB X (.builtin "len") (fun xs H Q=>∃z,xs=[.str z]/\z.length<=sizeLine/\Q (.int z.length) H):=by
 intro pins s σ H xs us Q I r h
 obtain⟨z,rfl,hz,q⟩:=h
 obtain⟨u,rfl,t,rfl⟩:=vals1 r
 have hn:=iO
 exact len_str (by lia) ⟨.int z.length,H,I.tok _,⟨_,rfl⟩,q⟩
theorem bB.or (h:bB X f r) (h':bB X f r'):bB X f (fun xs H Q=>r xs H Q\/r' xs H Q):=by
 intro pins s σ H xs us Q I rs q
 rcases q with q | q
 ·exact h pins s σ H xs us Q I rs q
 ·exact h' pins s σ H xs us Q I rs q
theorem bU:bB X (.type "tuple") (fun xs H Q=>∃p ys,xs=[.ref p]/\((SqL X.K H p ys/\∀l,H l=none->Q (.ref l) (upd H l (.tup ys)))\/(SqT X.K H p ys/\Q (.ref p) H))):=by
 intro pins s σ H xs us Q I r h
 obtain⟨p,ys,rfl,h⟩:=h
 obtain⟨u,rfl,rx⟩:=vals1 r
 cases rx
 rcases h with⟨hq,q⟩ | ⟨hq,q⟩
 ·obtain⟨its,r',pl,hz⟩:=I.list hq
  have hlen:=r'.length
  refine call_tuple_list pl.isList (fun h' kp=>?_) (by simp_all)
  have I1:Inv X pins σ H { s with heap:=h' }:=I.kept (t':=s.toks) kp
  have I2:Inv X pins σ (upd H h'.objs.size (.tup ys)) { s with heap:=h'.push { cls:=.type "tuple", data:=.seq its.toArray } }:=
   I1.laid (t':=s.toks) (fun b o e=>k3 _ e) (Ni _) (show bK X.prog X.w _ _ _ (.tup ys) from⟨hz,its,r',ng.new _ _⟩)
  exact⟨.ref h'.objs.size,_,I2,rfl,q _ (I1.hok.fresh (Ni _))⟩
 ·obtain⟨its,r',pl,hz⟩:=I.tuple hq
  exact call_tuple_same pl ⟨.ref p,H,I,rfl,q⟩
noncomputable def tyV (K:ab) (T:String) (x:V) (H:Hp):Prop:=match x with
 | .str _=>T="str"
 | .int _=>T="int"
 | .ref p=>(T="list" /\ ∃xs,SqL K H p xs)\/(T="tuple" /\ ∃o,K.lookup p=some o/\o.cls=.type "tuple" /\ o.dict=none) ∨
   (T="dict" /\ ((∃kvs,H p=some (.dK kvs))\/∃kvs,H p=some (.dT kvs)))\/(T="set" /\ ∃S n,H p=some (.set S n))\/(T="tuple" /\ ∃xs,H p=some (.tup xs))
 | _=>False
theorem Fu {pins:List (Addr × Obj)}{σ:St}{H:Hp}{s:Nk}{T:String}{x:V}{v:Ng} (I:Inv X pins σ H s) (r:RelV x v) (ty:tyV X.K T x H) :
  s.TypeIs v T/\∀a,v=.ref a->∃ob,s.heap.get? a=some ob/\ob.dict=none:=by
 cases x with
 | str z=>
  obtain⟨t,rfl⟩:=r
  cases (show T="str" from ty)
  exact⟨typeIs_str s z t,fun _ e=>nomatch e⟩
 | int i=>
  obtain⟨t,rfl⟩:=r
  cases (show T="int" from ty)
  exact⟨SS s i t,fun _ e=>nomatch e⟩
 | ref p=>
  cases r
  rcases ty with⟨rfl,xs,hq⟩ | ⟨rfl,o,hk,hc,hd⟩ | ⟨rfl,hk⟩ | ⟨rfl,S,n,hk⟩ | ⟨rfl,xs,hk⟩
  ·obtain⟨its,_,pl,_⟩:=I.list hq
   refine⟨pl.isList.typeIs,fun a e=>?_⟩
   cases e
   obtain⟨o,n,e,c,hd,_⟩:=pl
   simp_all
  ·refine⟨⟨o,I.kIn p o hk,hc⟩,fun a e=>?_⟩
   cases e
   exact⟨o,I.kIn _ o hk,hd⟩
  ·have z:∃o,s.heap.get? p=some o/\o.ExactDict:=by
    rcases hk with⟨kvs,hk⟩ | ⟨kvs,hk⟩
    ·obtain⟨_,_,_,_,o,_,_,e,ex,_⟩:=I.hok p _ hk
     simp_all
    ·obtain⟨_,_,_,_,o,_,_,e,ex,_⟩:=I.hok p _ hk
     simp_all
   obtain⟨o,e,ex⟩:=z
   refine⟨⟨o,e,ex.1⟩,fun a e2=>?_⟩
   cases e2
   exact⟨o,e,ex.2.1⟩
  ·obtain⟨o,_,_,_,e,ex,_⟩:=I.hok p _ hk
   refine⟨⟨o,e,ex.1⟩,fun a e2=>?_⟩
   cases e2
   exact⟨o,e,ex.2.1⟩
  ·obtain⟨_,_,_,o,e,⟨c,_⟩,hd⟩:=I.hok p _ hk
   refine⟨⟨o,e,c⟩,fun a e2=>?_⟩
   simp_all
 | _=>exact Rc ty
noncomputable def tBM (K:ab) (T:String) (r:V->List V->Hp->VK->Prop) (to:TE) (t:TA):TE:=fun σ H Q=>to σ H fun x H1=>tyV K T x H1/\t σ H1 fun xs H2=>r x xs H2 Q
variable {o e:Expr}{es:List Expr}{to:TE}{t:TA}{name:Str}{apos cpos:Pos}{T id:String}{r:V->List V->Hp->VK->Prop}
theorem E6 (pa:PlainAttrs T) (slot:Slot T name id) (hty:typeOf (.builtin id)=pure (.type "method_descriptor")) (hm:MtR X id r) (ho:PE X o to) (ha:PA X (e::es) t)
  (hbase:attributeBase o name X.env (eval o X.env)=eval o X.env:=by rfl)
  (hfew:((backTo cpos (starEach (e::es) X.env)).all (fun x=>!x.1)&&(backToKw cpos (keywordEach [] X.env)).all (fun x=>x.1.isSome)
   && decide ((e::es).length+([]:List Sf).length+(if ([]:List Sf).isEmpty then 0 else 1)<30))=true:=by rfl)
  (hline:(apos.endLine == cpos.line)=true:=by rfl) (hs:starEach (e::es) X.env=(false,eval e X.env)::starEach es X.env:=by rfl) (hplain:(backTo cpos (starEach es X.env)).any (·.1)=false:=by rfl) :
  PE X (.Call (.Attribute o name apos) (e::es) [] cpos) (tBM X.K T r to t):=by
 intro pins s σ H Q I h
 refine wpAny_Call_method_late hbase hfew hline rfl (thn (ho pins s σ H _ I h) fun v s1 ⟨x,H1,I1,r1,ty,q1⟩=>?_)
 obtain⟨h1,h2⟩:=Fu I1 r1 ty
 refine⟨T,id,pa,slot,hty,h1,h2,?_⟩
 have hA:=ha cpos pins s1 σ H1 _ I1 q1
 rw[hs] at hA ⊢
 refine Calls.callWith_builtin (by simp_all) (Calls.evalArgs_plain ?_)
 exact thn hA fun us s2 ⟨vs,H2,I2,r2,q2⟩=>hm pins s2 σ H2 x vs v us Q I2 r1 r2 q2
/- xs.append(e),list.index on a module's tuple .. are MtR facts of 06m -/
end
noncomputable def MtM (X:Cx) (id:String) (r:V->List V->Hp->VK->Prop):Prop:=
 ∀pins s (σ:St) H x xs v us Q , Inv X pins σ H s->RelV x v->Vals xs us->r x xs H Q →
  wpAny (model X.prog X.w) X.A (call (.builtin id) (v::us)) (EP X pins σ Q) X.xe s
theorem Vals.one:∀{x:V}{us:List Ng},Vals [x] us->∃u,us=[u]/\RelV x u
 | _,_,.cons r .nil=>⟨_,rfl,r⟩
theorem Vals.two:∀{x y:V}{us:List Ng},Vals [x,y] us->∃u v,us=[u,v]/\RelV x u/\RelV y v
 | _,_,_,.cons r (.cons q .nil)=>⟨_,_,rfl,r,q⟩
theorem Vals.eraseIdx:∀{xs:List V}{us:List Ng} i , Vals xs us->Vals (xs.eraseIdx i) (us.eraseIdx i)
 | _,_,_,.nil=>.nil
 | _,_,0,.cons _ t=>t
 | _,_,i+1,.cons r t=>.cons r (Vals.eraseIdx i t)
theorem Vals.rep {xs:List V}{us:List Ng} (h:Vals xs us):∀k:Nat,Vals (NS k xs).flatten (NS k us).flatten
 | 0=>.nil
 | k+1=>by
  rw[Qi,Qi,List.flatten_cons,List.flatten_cons]
  exact Vals.append h (Vals.rep h k)
theorem foldl_rep (its:List Ng):∀(k:Nat) (acc:List Ng),
  List.foldl (fun x1 x2=>x1++x2) acc.toArray (NS k its.toArray)=(acc++(NS k its).flatten).toArray
 | 0,acc=>by simp
 | k+1,acc=>by
  have e:acc.toArray++its.toArray=(acc++its).toArray:=by simp
  have e2:(acc++its)++(NS k its).flatten=acc++(NS (k+1) its).flatten:=by
   grind
  rw[<- e2,<- foldl_rep its k (acc++its),<- e,Qi,Oz]
section
variable {X:Cx}{pins:List (Addr × Obj)}{σ:St}{H:Hp}{s:Nk}{l b:Addr}{xs ys zs:List V}
theorem Inv.F1 {its its':List Ng} (I:Inv X pins σ H s) (hH:H l=some (.lst xs))
  (e:s.heap.get? l=some { cls:=.type "list", data:=.seq its.toArray n }) (hf:f its.toArray=its'.toArray) (hv:Vals ys its') (hz:ys.length<=sizeLine) :
  Inv X pins σ (upd H l (.lst ys)) { s with heap:=s.heap.update l (OU f),toks:=t' }:=by
 have q:=PySem.IsL.update e f
 rw[hf] at q
 refine I.write (x:=l) (e:=l) (by rw[hH];exact trivial) (.inl rfl) (fun b' u hb hu=>(Heap.get?_update_other s.heap (OU f) (Sd hb)).trans hu) ⟨_,q⟩ ?_
 exact⟨hz,its',_,hv,q⟩
theorem Inv.Dj (I:Inv X pins σ H s) (hv:Vals ys its) (hz:ys.length<=sizeLine) :
  Inv X pins σ (upd H s.heap.objs.size (.lst ys)) { s with heap:=s.heap.push { cls:=.type "list", data:=.seq its.toArray },toks:=t' }:=
 I.laid (fun _ _ q=>k3 _ q) (Ni _) ⟨hz,its,0,hv,Nm _ rfl⟩
theorem Inv.fresh (I:Inv X pins σ H s):H s.heap.objs.size=none:=I.hok.fresh (Ni _)
theorem Inv.HY (I:Inv X pins σ H s) (hH:H l=some (.lst xs)):xs.length<=sizeLine/\∃its n,Vals xs its/\xs.length=its.length/\s.heap.get? l=some { cls:=.type "list", data:=.seq its.toArray n }:=by
 obtain⟨z,its,n,r,e⟩:=I.hok l _ hH
 exact⟨z,its,n,r,r.length,e⟩
theorem Au (h:n<=sizeLine):Qp n=false:=by
 unfold Qp
 simp_all
end
section
variable {X:Cx}
noncomputable def yV:V->List V->Hp->VK->Prop:=fun x vs H Q=>∃l xs y,x=.ref l/\vs=[y]/\H l=some (.lst xs)/\xs.length<sizeLine/\Q .non (upd H l (.lst (xs++[y])))
theorem lu:MtM X "list.append" yV:=by
 intro pins s σ H x vs v us Q I rx rv h
 obtain⟨l,xs,y,rfl,rfl,hH,hz,q⟩:=h
 cases rx
 obtain⟨u,rfl,ru⟩:=rv.one
 obtain⟨z,its,n,r,hl,e⟩:=I.HY hH
 refine RG F.slot_list_append ⟨_,e,rfl⟩ F.entry_list_append (F.args_list_append_2 _ _) (PySem.list_append l its.toArray n u (by simp_all)) ⟨e,?_⟩
 refine⟨.non,_,I.F1 (its':=its++[u]) hH e (by simp) (r.append (.cons ru .nil)) ?_,rfl,q⟩
 grind
noncomputable def BU:V->List V->Hp->VK->Prop:=fun x vs H Q=>∃l xs i k y,x=.ref l/\vs=[.int i]/\H l=some (.lst xs)/\-(2 ^ 63)<=i/\i<2 ^ 63/\seqIndex? i xs.length=some k/\xs[k]?=some y/\Q y (upd H l (.lst (xs.eraseIdx k)))
theorem qm {α:Type}:∀(l:List α) (i:Nat),(l.eraseIdx i).length<=l.length
 | [],_=>Ni _
 | _::_,0=>Qj _
 | _::r,i+1=>Nat.succ_le_succ (qm r i)
theorem BA:MtM X "list.pop" BU:=by
 intro pins s σ H x vs v us Q I rx rv h
 obtain⟨l,xs,i,k,y,rfl,rfl,hH,h1,h2,hk,hy,q⟩:=h
 cases rx
 obtain⟨u,rfl,ru⟩:=rv.one
 obtain⟨t,rfl⟩:=ru
 obtain⟨z,its,n,r,hl,e⟩:=I.HY hH
 obtain⟨w,hw,rw'⟩:=r.get hy
 refine RG F.slot_list_pop ⟨_,e,rfl⟩ F.entry_list_pop (F.args_list_pop_2 _ _)
  (MeetsSeq.list_pop_at l its.toArray n i t k w (R7 h1 h2) (by rw[NB,<- hl];exact hk) (by rw[<- Nr];exact hw) (by rw[NB];lia)) ⟨e,?_⟩
 refine⟨y,_,I.F1 (its':=its.eraseIdx k) hH e ?_ (r.eraseIdx k) ?_,rw',q⟩
 ·show its.toArray.eraseIdxIfInBounds k=(its.eraseIdx k).toArray
  rw[List.eraseIdxIfInBounds_toArray]
 ·have:=qm xs k
  lia
theorem len_rep {α:Type} (xs:List α) (k):(NS k xs).flatten.length=k*xs.length:=by
 simp
end
end L2
namespace Att
open PySem PySem.W PySem.Calls PyProof.Rows
theorem mq:∀ns vs , WellAll P h vs (ns.map WData.int)->IntsAre vs ns:=by
 intro ns
 induction ns with
 | nil=>
  intro vs w
  rw[RS] at w
  cases w
  exact .nil
 | cons n ns ih=>
  intro vs w
  rw[ND] at w
  cases w with
  | cons a b=>
   cases a
   exact .cons _ _ (ih _ b)
theorem Ao {l:SY} (hn:l.most=some n)
  (hpre:l.row.toRowW.claim.pre args=true) (hwl:WellAll P h vals args) :
  ∃a vs ns,vals=[Oj a]/\args=[WData.list (ns.map WData.int)]/\h.get? a=some { cls:=.type "list", data:=.seq vs.toArray }/\IntsAre vs ns/\ns.length<=n:=by
 have hsh:WShape.hasAll [] args [.list .int]=true:=(pre_splitW hpre).1
 have hc:l.pre.holds [] { args:=args }=true:=(pre_splitW hpre).2
 obtain⟨d,r,rfl,h1,h2⟩:=hasAllW_cons hsh
 obtain rfl:=hasAllW_nil h2
 obtain⟨xs,rfl,h3⟩:=hasW_list h1
 obtain⟨ns,rfl⟩:=items_int h3
 have hlen:ns.length<=n:=by
  unfold SY.pre at hc
  have h4:(WTm.not (.lt (.lit (.int (n:Int))) (.len (.arg 0)))).holds [] { args:=[.list (ns.map .int)] }=true:=by
   have h4:=(holds_andW hc).1
   simp_all
  have h5:=condW_of h4 (w_not (w_lt w_lit (w_len_list (w_arg rfl))))
  simp_all
 cases hwl with
 | cons w1 w2=>
  cases w2
  cases w1 with
  | list ho hall=>exact⟨_,_,ns,rfl,rfl,ho,mq ns _ hall,hlen⟩
theorem Ac (l:SY) (args):l.row.toRowW.claim.post args (.bool true) args=true:=
 postW_of (r:=l.row.toRowW) (X:=(true == true))
  (show WShape.has [] (.bool true) .bool=true by rfl)
  (show(WTm.eq .res (.lit (.bool true))).value [] { args:=args,res:=some (.bool true),after:=args }=some (.bool (true == true)) from w_eq_bool (w_res rfl) w_lit) rfl
theorem vT {l:SY}
  (hn:l.most=some n) (hdf:d.params.defaults=[])
  (call:∀w aD s₁ mg mb fa o pm cd doc a vs ns ,
   Ground q loose [] XP w aD mg mb s₁.heap->YP w s₁.heap →
   s₁.heap.get? fa=some o->o.data=.func (docDef d.name d.params d.body d.scope pm cd doc)->s₁.heap.CodeRec cd d.name->mg d.name=some (.ref fa) →
   s₁.heap.get? a=some { cls:=.type "list", data:=.seq vs.toArray }->IntsAre vs ns->ns.length<=n->s₁.gens = #[] →
   codeAny (model l.prog w) callerA (.call (.ref fa) ⟨[.ref a],[]⟩) (fun r s'=>r=.ok (.ret (.bool true))/\OldK s₁.heap s'.heap/\s'.os=s₁.os/\RP s'.gens) s₁) :
  WalkO q loose XP YP l.row.toRowW d [] (fun f vs=>SU f vs):=by
 intro w aD s₁ mg mb G Y fa o pm cd doc dV kV ho hd hcd hD hmg hg args vals as hpre hlay hrd hwl hlo
 obtain rfl:dV=.none:=Dflts.none hD hdf
 obtain rfl:kV=.none:=Dflts.noKw hD
 obtain⟨a,vs,ns,rfl,rfl,hobj,hints,hlen⟩:=Ao hn hpre hwl
 refine enter_call (O_ (call w aD s₁ mg mb fa o pm cd doc a vs ns G Y ho (fd_plain hd) hcd hmg hobj hints hlen hg) fun r s' hq=>?_)
 obtain⟨rfl,h2,h3,h4⟩:=hq
 exact⟨.inl ⟨.bool true,.bool true,[],rfl,fun _=>rfl,.bool true,Ac l _,fun _=>⟨QI,fun _ hm=>(nomatch hm)⟩⟩,h2,h3,h4⟩
end Att
namespace L2
open PySem PySem.Spec PyProof.Rows
theorem qS:∀{vs:List Ng}{ns:List Int},IntsAre vs ns->Vals (ns.map V.int) vs
 | _,_,.nil=>.nil
 | _,_,.cons n t h=>.cons ⟨t,rfl⟩ (qS h)
noncomputable def LW (H:Hp):Prop:=∀b,H b=none\/∃o xs,H b=some (.frz o (.lst xs))
end L2
/- THE LAST THEOREM (shape;LID,My.* are yours):
  My.Adr: a structure of the addresses that your layer names (classes,functions);My.Txt K t: a structure (Prop) of the equations over K;
  My.txt_mk:{K} {implicit addresses ..} (e1:nsIn K mainGlobals "law" = some (some (.ref f))) (e2:K.lookup f=some ⟨oc,od,.func (fnOf "law" "law" params body scope dV kV doc pm an cdv ct),sl⟩) (e3:codeIn K cdv "law" = true) .. : ∃t,My.Txt K t
(the tactic k_is has no namespace: write k_is) -/
namespace L2
open PySem PySem.Spec PyProof.Rows
noncomputable def dv (s:Stmt):Sj:=match s with
 | .FunctionDef _ a _ _ _ _ _ _ _ _=>a
 | _=>{ posonlyargs:=[],args:=[],vararg:=none,kwonlyargs:=[],kw_defaults:=[],kwarg:=none,defaults:=[] }
noncomputable def b8 (s:Stmt):List Stmt:=match s with
 | .FunctionDef _ _ b _ _ _ _ _ _ _=>b
 | _=>[]
noncomputable def ak (s:Stmt):Rh:=match s with
 | .FunctionDef _ _ _ _ _ _ sc _ _ _=>sc
 | _=>{ kind:=.function,names:=[],isGenerator:=false,isCoroutine:=false }
noncomputable abbrev CX0:CXT:=fun _ _ _ _ _ _=>False
noncomputable abbrev E0:XK:=fun _ _ _=>False
theorem Jq:Passes CX0 X E0:=fun _ _ _ _ _ _ _ h=>h.elim
structure Fun (K) (x qual) (st) (f) (fd):Prop where
 ex:∃oc od kV doc pm an cdv ct osl,
  fd=Oh x qual (dv st) (b8 st) (ak st) .none kV doc pm an cdv ct/\K.lookup f=some ⟨oc,od,.func fd,osl⟩/\PK K cdv qual=true
 kp:Oy K (.ref f)=true
section
variable {P:NC}{w:N4}{K:ab}{mg:Str->Option Ng}{base:Heap}
theorem Fun.ok {st:Stmt} (F:Fun K x qual st f fd) (S:aA N ps (ak st)) (len:∀vs H Q E,sp vs H Q E->vs.length=ps.length)
  (hbody:∀cdv A outer s H vs Q E , eJ k (A.deeper (envOfC qual (ak st) s.heap.objs.size f cdv))->sp vs H Q E →
   ∃t,PSs (jJ CX0 P w K mg base N qual (ak st) f cdv A outer s H E).nox (b8 st) t/\t { nx:=fun _ H'=>Q .non H',rt:=Q } (start N vs) H):dJ P w K mg base CX0 (k+1) f fd ps sp:=by
 obtain⟨oc,od,kV,doc,pm,an,cdv,ct,osl,rfl,lk,hcd⟩:=F.ex
 refine Ku lk hcd S len fun A outer s H vs Q E hr hsp=>?_
 obtain⟨t,h,q⟩:=hbody cdv A outer s H vs Q E hr hsp
 exact⟨t,h.nox,q⟩
theorem Fun.binds {st:Stmt} (F:Fun K x qual st f fd)
  (h:∀kV doc pm an cdv ct us , us.length=ps.length->bindArgs (Oh x qual (dv st) (b8 st) (ak st) .none kV doc pm an cdv ct) ⟨us,[]⟩=pure (ps.zip us)):Binds K fd ps []:=by
 obtain⟨oc,od,kV,doc,pm,an,cdv,ct,osl,rfl,lk,hcd⟩:=F.ex
 exact .all (h kV doc pm an cdv ct)
theorem wx {st:Stmt}{kV doc pm cdv ct:Ng} (l:K.lookup f=some ⟨oc,od,.func (Oh x qual (dv st) (b8 st) (ak st) .none kV doc pm an cdv ct),osl⟩)
  (c:PK K cdv qual=true) (k:Oy K (.ref f)=true):Fun K x qual st f (Oh x qual (dv st) (b8 st) (ak st) .none kV doc pm an cdv ct):=⟨⟨oc,od,kV,doc,pm,an,cdv,ct,osl,rfl,l,c⟩,k⟩
end
noncomputable def PTs (X:Cx) (ifs:List Expr) (t:TT):Prop:=
 ∀pins s (σ:St) H Q , Inv X pins σ H s->t σ H Q →
  wpAny (model X.prog X.w) X.A (forIn ifs true fun c r=>if r=true then do let ok ← isTrue c X.env (eval c X.env);pure (OQ ok) else pure (OQ r)) (TP X pins σ Q) X.xe s
noncomputable def J_:TT:=fun _ H Q=>Q true H
theorem C9:PTs X [] J_:=fun _ _ _ H _ I h=>wpAny_tests_nil ⟨H,I,h⟩
theorem Di (h:PT X c t):PTs X [c] t:=fun pins s σ H Q I q=>wpAny_tests_one (h pins s σ H Q I q)
theorem uG (I:Nat->Nk->Prop)
  (turn:∀n s,I n s->wpAny (model prog w) A (pyNext it) (fun r s₁=>match r with
   | none=>R (.ok .next) s₁
   | some v=>wpAny (model prog w) A (letOwnedTupleGo target it v) (fun _ s₁=>wpAny (model prog w) A (assign target env v) (fun _ s₂=>
     wpAny (model prog w) A (forIn ifs true fun c r=>if r=true then do let ok ← isTrue c env (eval c env);pure (OQ ok) else pure (OQ r)) (fun ok s₃=>
      if ok=true then wpAny (model prog w) A (eval elt env) (fun x s₄=>
       wpAny (model prog w) A (call (.builtin "list.append") [acc,x]) (fun _ s₅=>∃m,m<n/\I m s₅) (fun _ _=>False) s₄) (fun _ _=>False) s₃
      else ∃m,m<n/\I m s₃) (fun _ _=>False) s₂) (fun _ _=>False) s₁) (fun _ _=>False) s₁) (fun _ _=>False) s)
  (n) (h:I n s) :
  codeAny (model prog w) A (.compLoop (.ListComp elt [⟨target,iter,ifs,0⟩] scope pos) 0 it acc env) R s:=by
 refine Sv rfl I (fun n s hI=>?_) n h
 refine SI ?_
 refine RK ?_
 refine gV (Pk (gV (Ov (turn n s hI) (fun r s₁ h₁=>?_) fun _ _ h'=>h')))
 cases r with
 | none=>exact k5 h₁
 | some v=>
  refine gV (Ov h₁ (fun _ s₁' h₁'=>?_) fun _ _ h'=>h')
  refine gV (Ov h₁' (fun _ s₂ h₂=>gV (Ov h₂ (fun ok s₃ h₃=>?_) fun _ _ h'=>h')) fun _ _ h'=>h')
  cases ok with
  | false=>exact k5 ⟨rfl,h₃⟩
  | true=>
   exact gV (gV (Ov h₃ (fun x s₄ h₄=>gV (Ov h₄ (fun _ s₅ h₅=>k5 (k5 ⟨rfl,h₅⟩)) fun _ _ h'=>h')) fun _ _ h'=>h'))
noncomputable def bG (X:Cx) (scope:Rh) (cl:List (Str × Addr)) (C:Addr) (aD:Nk) (aK:Hp) (fp:List Addr) (N':List Str):Cx:=
 { X with N:=N',aD:=aD,aK:=aK,env:=compEnvC scope cl C X.env,outer:=X.stack,ex:=fp,fn:=fun _=>false,pn:=[] }
theorem jC {env:Env}:∀(names:List (Str × Pp)) (cs:List (Str × Addr)),(∀y∈names,y.2=.free->∃a,env.cells.lookup y.1=some a)->(∀x c,cs.lookup x=some c->env.cells.lookup x=some c) →
  ∃cl:List (Str × Addr),(forIn names cs fun(y:Str × Pp) (r:List (Str × Addr))=>if (y.2 == OF)=true then do let a ← cellOf env y.1;pure (OQ ((y.1,a)::r)) else pure (OQ r):Sem (List (Str × Addr)))=pure cl ∧
   (∀x c,cl.lookup x=some c->env.cells.lookup x=some c)/\(∀x,((x,OF)∈names\/∃c,cs.lookup x=some c)->∃c,cl.lookup x=some c)
 | [],cs,_,h=>⟨cs,rfl,h,fun x hx=>by
   rcases hx with z | z
   ·cases z
   ·exact z⟩
 | (n,k)::r,cs,hf,h=>by
  by_cases hk:k=.free
  ·subst hk
   obtain⟨a,ha⟩:=hf (n,.free) (by simp) rfl
   obtain⟨cl,e,h1,h2⟩:=jC r ((n,a)::cs) (fun y hy=>hf y (ox _ hy)) (fun x c q=>by
    rw[Og] at q
    cases hx:x == n with
    | true=>
     rw[hx] at q
     have:x=n:=by simpa using hx
     subst this
     cases q;exact ha
    | false=>rw[hx] at q;exact h x c q)
   refine⟨cl,?_,h1,fun x hx=>?_⟩
   ·rw[Rk]
    have e0:cellOf env n=pure a:=by unfold cellOf;rw[ha]
    simp only[e0]
    exact e
   ·have hc:∀z c,cs.lookup z=some c->∃c,((n,a)::cs).lookup z=some c:=fun z c q=>by
     rw[Og]
     cases z == n with
     | true=>exact⟨a,rfl⟩
     | false=>exact⟨c,q⟩
    rcases hx with z | ⟨c,z⟩
    ·rcases Nx.mp z with q | q
     ·cases q
      exact h2 n (.inr ⟨a,by simp[Og]⟩)
     ·exact h2 x (.inl q)
    ·exact h2 x (.inr (hc x c z))
  ·obtain⟨cl,e,h1,h2⟩:=jC r cs (fun y hy=>hf y (ox _ hy)) h
   have hb:(k == OF)=false:=by simpa using hk
   refine⟨cl,?_,h1,fun x hx=>?_⟩
   ·rw[Rk]
    simp only[hb]
    exact e
   ·rcases hx with z | z
    ·rcases Nx.mp z with q | q
     ·cases q;exact absurd rfl hk
     ·exact h2 x (.inl q)
    ·exact h2 x (.inr z)
theorem ju (h:∀y∈scope.names,y.2=.free->∃a,env.cells.lookup y.1=some a) :
  ∃cl:List (Str × Addr),closureFor scope env=pure cl/\(∀x c,cl.lookup x=some c->env.cells.lookup x=some c)/\(∀x,(x,OF)∈scope.names->∃c,cl.lookup x=some c):=by
 obtain⟨cl,e,h1,h2⟩:=jC scope.names [] h (fun x c q=>by cases q)
 refine⟨cl,?_,h1,fun x hx=>h2 x (.inl hx)⟩
 exact Nv (congrArg (fun t:Sem (List (Str × Addr))=>t >>= fun cs=>pure cs) e) rfl
theorem lookup_mem {x:Str}{k:Pp}:∀{names:List (Str × Pp)},names.lookup x=some k->(x,k)∈names
 | [],h=>by cases h
 | (n,j)::r,h=>by
  rw[Og] at h
  cases hx:x == n with
  | true=>
   simp_all
  | false=>rw[hx] at h;exact ox _ (lookup_mem h)
theorem dh {env:Env} (hf:env.scope.kind=.function):∀{names:List (Str × Pp)}{x:Str},names.lookup x=some .free->env.kindOf x=some .cell →
  (names.map fun(n,k)=>if (k == OF&&env.scope.kind == .function&&env.kindOf n == some .cell) then (n,Q_) else (n,k)).lookup x=some .cell
 | [],_,h,_=>by cases h
 | (n,k)::r,x,h,hc=>by
  have ih:=@dh env hf r x
  show List.lookup x ((if (k == OF&&env.scope.kind == .function&&env.kindOf n == some .cell)=true then (n,Q_) else (n,k))::_)=_
  cases hx:x == n with
  | true=>
   have:x=n:=by simpa using hx
   subst this
   simp only[Og,hx] at h
   cases h
   rw[if_pos (by simp[hf,hc])]
   simp[Og]
  | false=>
   simp only[Og,hx] at h
   by_cases hq:(k == OF&&env.scope.kind == .function&&env.kindOf n == some .cell)=true
   ·rw[if_pos hq];simp only[Og,hx];exact ih h hc
   ·rw[if_neg hq];simp only[Og,hx];exact ih h hc
theorem dU {env:Env}:∀{names:List (Str × Pp)}{x:Str}{k:Pp},(names.map fun(n,k)=>if (k == OF&&env.scope.kind == .function&&env.kindOf n == some .cell) then (n,Q_) else (n,k)).lookup x=some k →
  names.lookup x=some k\/(names.lookup x=some .free/\k=.cell)
 | [],_,_,h=>by cases h
 | (n,j)::r,x,k,h=>by
  have ih:=@dU env r x k
  have h':List.lookup x ((if (j == OF&&env.scope.kind == .function&&env.kindOf n == some .cell)=true then (n,Q_) else (n,j))::(r.map fun(n,k)=>if (k == OF&&env.scope.kind == .function&&env.kindOf n == some .cell) then (n,Q_) else (n,k)))=some k:=h
  by_cases hq:(j == OF&&env.scope.kind == .function&&env.kindOf n == some .cell)=true
  ·rw[if_pos hq] at h'
   have hj:j=.free:=by
    have:=P9.mp (P9.mp hq).1
    simpa using this.1
   simp only[Og] at h' ⊢
   cases hx:x == n with
   | true=>rw[hx] at h';cases h';exact .inr ⟨by rw[hj],rfl⟩
   | false=>rw[hx] at h';exact ih h'
  ·rw[if_neg hq] at h'
   simp only[Og] at h' ⊢
   cases hx:x == n with
   | true=>rw[hx] at h';cases h';exact .inl rfl
   | false=>rw[hx] at h';exact ih h'
noncomputable def vJ (ix:List Nat) (σ:St):St:=none::ix.map fun i=>(σ[i]?).join
noncomputable abbrev Js (J:It) (tt:TT) (te:TE) (σ':V->St) (acc:Addr) (H1:Hp) (Q:VK):Prop:=
 ∃W:Nat->Nat->List V->Hp->Prop,(∃m,W 0 m [] (upd H1 acc (.lst [])))/\∀i m ys H,W i m ys H →
  (J.stop i H/\Q (.ref acc) H)\/(J.go i H/\∀x H',J.yld i H x H'->tt (σ' x) H' fun b H2=>if b=true then te (σ' x) H2 fun y H3=>
    H3 acc=some (.lst ys)/\ys.length<sizeLine/\∃m',m'<m/\W (i+1) m' (ys++[y]) (upd H3 acc (.lst (ys++[y])))
   else ∃m',m'<m/\W (i+1) m' ys H2)
noncomputable def EJ (wi:TI) (ix:List Nat) (tt:TT) (te:TE):TE:=fun σ H Q=>wi σ H fun J H1=>∀acc,H1 acc=none->Js J tt te (fun x=>(vJ ix σ).set 0 (some x)) acc H1 Q
theorem HOk.sameBut (x:HOk P w H h) (hn:H C=none) (k:∀b u,b≠C->h.get? b=some u->h'.get? b=some u):HOk P w H h':=fun b u e=>by
 have nC:∀b u,H b=some u->b≠C:=fun b u e z=>by simp_all
 refine(x b u e).kW (fun c v hc q=>k c v ?_ q) (fun _ q=>q) fun _ _ q=>q
 grind
theorem vO:isSubtype (.type "tuple") (.type "set")=pure false:=by rfl
theorem sT:isSubtype (.type "tuple") (.type "frozenset")=pure false:=by rfl
noncomputable abbrev fu (led:Bool):Obj:={ cls:=.type "set", dict:=none,data:=.set #[] 0 (.fresh 0 0 led) }
set_option maxHeartbeats 3200000 in
theorem set_tuple {prog:NC}{w:N4}{B:N1}{Er:Ng->Nk->Prop}{z:Nk}{a:Addr}{its:Array Ng}{zs:List Int}{Q:Ng->Nk->Prop}
  (hh:B.handled=none) (ht:z.heap.IsTuple a its) (hi:IntsAre its.toList zs) (hb:its.size+1<scanBound)
  (fin:∀(g':Heap) (tk:Nat),g'.SetOf (intKind prog w) z.heap.objs.size (fun k'=>(firstMet (fun i=>zs.getD i 0) its.size).any (· == k')) (firstMet (fun i=>zs.getD i 0) its.size).length →
   (∀b o,b<z.heap.objs.size->z.heap.get? b=some o->g'.get? b=some o)->Q (.ref z.heap.objs.size) { z with heap:=g',toks:=tk }) :
  wpAny (model prog w) B (call (.type "set") [.ref a]) Q Er z:=by
 obtain⟨_,_,_⟩:=Ot.mro
 have:=Ot.made
 have:=Ot.sub
 refine R5 (Rl ?_)
 show wpAny _ _ (callAny (.type "set") _) _ _ _
 refine k5 ⟨Ru _ (by decide +kernel),Px F.entry_type_call ?_⟩
 rw[N1.under_plain (weight_type_call_type "set" [.ref a] []) rfl]
 have:=Ot.notType
 have:=Ot.canCreate
 have:=F.typeCall_set_1 (.ref a)
 repeat (any_goals (first | assumption | wp_step))
 refine O_ (code_set_new_1 (.ref a) (E:=Er) (Q₁:=fun v y=>∃led:Bool,v=.ref z.heap.objs.size/\y={ z with heap:=z.heap.push (fu led) }) fun led=>⟨led,rfl,rfl⟩) fun r y hr=>?_
 cases r with
 | error e=>exact hr
 | ok fl=>
  cases fl with
  | ret v=>
   obtain⟨led,rfl,rfl⟩:=hr
   have hS:(z.heap.push (fu led)).get? z.heap.objs.size=some (fu led):=Nm _ rfl
   have hT:Nk.TypeIs { z with heap:=z.heap.push (fu led) } (.ref z.heap.objs.size) "set" := ⟨_,hS,rfl⟩
   have:=Ot.init.lookup
   have:=Ot.init.bind (.ref z.heap.objs.size)
   repeat (any_goals (first | assumption | wp_step))
   refine O_ (codeAny_call_builtin (R:=wants (fun r y=>r=.none/\∃g' tk,y={ z with heap:=g',toks:=tk } ∧
     g'.SetOf (intKind prog w) z.heap.objs.size (fun k'=>(firstMet (fun i=>zs.getD i 0) its.size).any (· == k')) (firstMet (fun i=>zs.getD i 0) its.size).length ∧
     (∀b o,b<z.heap.objs.size->z.heap.get? b=some o->g'.get? b=some o)) Er) Ot.init.plain F.entry_set_init (check_set_init_1 hT ?_)) fun r₂ y₂ hr₂=>?_
   ·obtain⟨ol,hol,hcl,nl,hdl⟩:=id ht
    obtain⟨oc,od,oda,osl⟩:=ol
    simp only at hcl hdl
    subst hcl;subst hdl
    have hol':(z.heap.push (fu led)).get? a=some { cls:=.type "tuple", dict:=od,data:=.seq its nl,slots:=osl }:=k3 _ hol
    have:=vO
    have:=sT
    have:(QG "tuple" == QG "dict")=false:=by decide
    have ht1:(z.heap.push (fu led)).IsTuple a its:=⟨_,hol',rfl,nl,rfl⟩
    unfold Oo.«set.__init__» noKeywords Oo.Frozenset.updateFrom
    generalize hPI:pyIter=PI
    wp_walk
    subst hPI
    refine PN ht1 ?_
    refine gV (R8 ?_)
    have hlS:a<z.heap.objs.size:=Nh hol
    have hneI:a≠(z.heap.push (fu led)).objs.size:=by
     rw[QO];exact NA (P1 hlS)
    have hSf:z.heap.objs.size∉[(z.heap.push (fu led)).objs.size,a]:=by
     rw[QO];simp only[Nx,Nz,QY,or_false,not_or]
     exact⟨NA (OS _),Qm hlS⟩
    have hval:∀(i:Nat) (v:Ng),its[i]?=some v->∃t,v=.int ((fun i=>zs.getD i 0) i) t:=fun i v hv=>IntsAre.int_at hi i v (by rw[Nr];exact hv)
    refine codeAny_set_update_loopS ((Tf.tuple (by simp[hh]) _ a hneI its).toS) z.heap.objs.size
     hSf (fun i=>zs.getD i 0) hval hb (its.size - 0) 0 _ (by lia) (Ox _)
     ⟨⟨_,Nm _ rfl,rfl,rfl⟩,?hP⟩ ?hS0 ?hR
    case hP=>exact⟨_,k3 _ hol',rfl,nl,rfl⟩
    case hS0=>
     exact SetOf_congr ((setObjOf_fresh (knd:=intKind prog w) led).setOf (k3 _ hS) (by unfold scanBound;lia)) (fun _=>rfl) rfl
    case hR=>
     intro s' hm hS'
     obtain⟨h',g',d',tk',os'⟩:=s'
     obtain rfl:g'=z.gens:=hm.gens
     obtain rfl:d'=z.drawn:=hm.drawn
     obtain rfl:os'=z.os:=hm.os
     show wpAny _ _ _ _ _ _
     refine k5 ?_
     show wpAny _ _ (ret OI) _ _ _
     refine k5 ⟨rfl,h',tk',rfl,hS',fun b o hb e=>?_⟩
     refine hm.heap b o ?_ (k3 _ (k3 _ e))
     simp only[Nx,Nz,QY,or_false,not_or]
     refine⟨NA hb,?_⟩
     show b≠(z.heap.push (fu led)).objs.size
     rw[QO];exact NA (P1 hb)
   ·cases r₂ with
    | error e=>exact hr₂
    | ok fl₂=>
     cases fl₂ with
     | ret r=>
      obtain⟨rfl,g',tk,rfl,hS',hk'⟩:=hr₂
      repeat (any_goals (first | assumption | wp_step))
      exact fin _ _ hS' hk'
     | _=>exact hr₂.elim
  | _=>exact hr.elim
section
variable {X:Cx}
theorem tY:bB X (.builtin "isinstance") (fun vs H Q=>∃x t n b,vs=[x,.ty n]/\jz X.K H x t/\OX X.K t (.type n)=some b/\Q (.bl b) H):=by
 intro pins s σ H xs us Q I r h
 obtain⟨x,t,n,b,rfl,ty,e,q⟩:=h
 obtain⟨u,w',rfl,r1,r2⟩:=vals2 r
 cases r2
 exact zt I r1 ty e fun tk=>⟨.bl b,H,I.tok tk,rfl,q⟩
noncomputable def unl (ns:List Int):List Int:=firstMet (fun i=>ns.getD i 0) ns.length
theorem j_ (hc:X.calm=true):bB X (.type "set") (fun vs H Q=>∃p ns,vs=[.ref p]/\SqT X.K H p (ns.map V.int)/\ns.length+1<scanBound/\∀l,H l=none->Q (.ref l) (upd H l (.set (fun k=>(unl ns).any (· == k)) (unl ns).length))):=by
 intro pins s σ H xs us Q I r h
 obtain⟨p,ns,rfl,hq,hb,q⟩:=h
 obtain⟨u,rfl,rx⟩:=vals1 r
 cases rx
 obtain⟨its,r',pl,hz⟩:=I.tuple hq
 have hlen:=r'.length
 rw[Nw] at hlen
 have e0:its.toArray.size=ns.length:=by rw[NB,hlen]
 refine set_tuple (I.ok.hd hc) (show s.heap.IsTuple p its.toArray from pl) (by simpa using intsAre_of r') (by rw[e0];exact hb) fun g' tk hS hk=>?_
 rw[e0] at hS
 exact⟨.ref s.heap.objs.size,_,I.laid (fun b o e=>hk b o (Nh e) e) (Ni _) (show bK X.prog X.w _ g' _ (.set _ _) from hS),rfl,q _ (I.hok.fresh (Ni _))⟩
theorem p9:bB X (.builtin "len") (fun vs H Q=>∃p S n,vs=[.ref p]/\H p=some (.set S n)/\Q (.int n) H):=by
 intro pins s σ H xs us Q I r h
 obtain⟨p,S,n,rfl,hH,q⟩:=h
 obtain⟨u,rfl,rx⟩:=vals1 r
 cases rx
 obtain⟨o,es,ep,tb,ho,hex,hd,hel,hmem,hsz,hfit,rfl⟩:=(show s.heap.SetOf (intKind X.prog X.w) p S n from I.hok p _ hH)
 have hb:(es.size:Int)<2 ^ 63:=by unfold scanBound at hsz;lia
 exact PySem.call_len_set ho hex hd hfit hb ⟨.int es.size,H,I.tok _,⟨_,rfl⟩,q⟩
theorem jf {lo hi:Option Int} (ht:Ti s.heap t items) (hs:s.heap.IsSliceOf sl vl vu .none) (pl:Sl vl lo) (pu:Sl vu hi)
  (h1:HT.sIx items.size 0 lo=0) (h2:HT.sIx items.size items.size hi=items.size) (h:Q (.ref t) s):wpAny (model prog w) A (getItem (.ref t) (.ref sl)) Q E s:=by
 obtain⟨os,hos,hcs,hds⟩:=id hs
 have hTs:s.TypeIs (.ref sl) "slice" := ⟨os,hos,hcs⟩
 unfold getItem
 try with_reducible refine Oe ?_
 refine gV (wpAny_sequenceKey ht.typeIs (by decide) ?_)
 refine gV (OP ht.typeIs Oa (OE Oa ht.typeIs entry_tuple_getitem ?_ (args_tuple_getitem _ _)))
 show wpAny _ _ (Oo.Tuple.tupleItemsOf (.ref t) >>= _) _ _ s
 refine gV (tupleItemsOf_ ht (gV (Rt hTs ?_)))
 refine gV (HT.gL hs pl pu ?_)
 rw[h1,h2]
 show wpAny _ _ (if (((0:Nat):Int) == 0&&(1:Int) == 1&&(items.size - 0) == items.size)=true then _ else _) _ _ s
 rw[if_pos (by simp)]
 refine gV (gV (Rt ht.typeIs (k5 ?_)))
 refine gV (R4 ?_)
 first
  | exact k5 ⟨_,rfl,k5 h⟩
  | exact gV (k5 (k5 ⟨_,rfl,k5 h⟩))
noncomputable def JG (K:ab):V->Option Int->Option Int->Hp->VK->Prop:=fun x lo hi H Q=>∃a xs,x=.ref a/\SqT K H a xs/\HT.sIx xs.length 0 lo=0/\HT.sIx xs.length xs.length hi=xs.length/\Q (.ref a) H
theorem Dp:SlR X (JG X.K):=by
 intro pins s σ H x v vl vu lo hi sl Q I rx hs pl pu h
 obtain⟨a,xs,rfl,hx,h1,h2,q⟩:=h
 cases rx
 obtain⟨its,r,ht,hz⟩:=I.tuple hx
 have hlen:its.toArray.size=xs.length:=by rw[NB];exact r.length.symm
 refine⟨"tuple", _,Oa.lookup,ht.typeIs,?_⟩
 exact jf ht hs pl pu (by simp_all) (by simp_all) ⟨.ref a,H,I,rfl,q⟩
noncomputable def Cr (K:ab):R2:=fun x y H Q=>∃a b ys,x=.ref a/\y=.ref b/\SqT K H a []/\SqT K H b ys/\Q (.ref b) H
theorem Bf:OpR X (binaryOp .Add) (Cr X.K):=by
 intro pins s σ H x y v u Q I rx ry h
 obtain⟨a,b,ys,rfl,rfl,ha,hb,q⟩:=h
 cases rx
 cases ry
 obtain⟨its,r1,p1,_⟩:=I.tuple ha
 obtain⟨its2,r2,p2,_⟩:=I.tuple hb
 cases r1
 obtain⟨⟨cls,dd,data,sl⟩,ho,hc,n,hd⟩:=id p1
 obtain⟨⟨cls2,dd2,data2,sl2⟩,ho2,hc2,n2,hd2⟩:=id p2
 subst hc hd hc2 hd2
 exact Su ⟨_,ho,rfl⟩ ⟨_,ho2,rfl⟩ RL Sk QC Qt (Qo _ _)
  (tuple_addW0 a b _ _ n n2 dd dd2 sl sl2 (by simp)) ⟨ho,ho2,⟨.ref b,H,I,rfl,q⟩⟩
end
open AutoSeq1 (wpAny_loadPart')
noncomputable def sA (a:Addr) (lo hi st:Int):HO:=.ext fun h=>∃t u v,h.get? a=some { cls:=.type "range", data:=.fields #[.int lo t,.int hi u,.int st v] }
noncomputable def uU (lo st:Int) (n:Nat):List Int:=(Nj n).map fun(i:Nat)=>lo+(i:Int)*st
theorem vG (lo st:Int) (n:Nat):(uU lo st n).length=n:=by simp[uU]
theorem v9 {lo st:Int} (h:ItemsOf (fun i v=>∃t,v=.int (lo+i*st) t) acc n):Vals ((uU lo st n).map V.int) acc.toList:=by
 obtain⟨hs,hv⟩:=h
 have key:∀(l:List Ng) (k:Nat),(∀j v,l[j]?=some v->∃t,v=Pr (lo+((k+j:Nat):Int)*st) t)->Vals (((SJ k l.length).map fun(i:Nat)=>lo+(i:Int)*st).map V.int) l:=by
  intro l
  induction l with
  | nil=>intro k _;exact .nil
  | cons a r ih=>
   intro k hk
   refine .cons ?_ (ih (k+1) fun j v e=>?_)
   ·obtain⟨t,q⟩:=hk 0 a rfl
    exact⟨t,by lia⟩
   ·obtain⟨t,q⟩:=hk (j+1) v (by simp_all)
    grind
 have:=key acc.toList 0 fun j v e=>by
  simp_all
 unfold uU
 rw[List.range_eq_range',<- hs]
 omega
section
variable {X:Cx}
theorem Inv.rng {pins:List (Addr × Obj)}{σ:St}{H:Hp}{s:Nk}{lo hi st:Int}{t u v:Tok}{tk:Nat} (I:Inv X pins σ H s) :
  Inv X pins σ (upd H s.heap.objs.size (sA s.heap.objs.size lo hi st)) { s with heap:=s.heap.push { cls:=.type "range", data:=.fields #[.int lo t,.int hi u,.int st v] },toks:=tk }:=by
 refine I.laid (fun b o e=>k3 _ e) (Ni _) ?_
 refine⟨⟨t,u,v,Nm _ rfl⟩,⟨_,Nm _ rfl⟩,fun h1 h2 ⟨a,b,c,e⟩ k=>⟨a,b,c,k _ e⟩⟩
theorem yY:bB X (.type "range") (fun vs H Q=>∃j,vs=[.int j]/\∀p,H p=none->Q (.ref p) (upd H p (sA p 0 j 1))):=by
 intro pins s σ H xs us Q I r h
 obtain⟨j,rfl,q⟩:=h
 obtain⟨u,rfl,t,rfl⟩:=vals1 r
 exact call_range_1 ⟨.ref _,_,I.rng,rfl,q _ (I.hok.fresh (Ni _))⟩
theorem zh:bB X (.type "range") (fun vs H Q=>∃i j,vs=[.int i,.int j]/\∀p,H p=none->Q (.ref p) (upd H p (sA p i j 1))):=by
 intro pins s σ H xs us Q I r h
 obtain⟨i,j,rfl,q⟩:=h
 obtain⟨u,w',rfl,⟨t,rfl⟩,⟨t',rfl⟩⟩:=vals2 r
 exact call_range_2 ⟨.ref _,_,I.rng,rfl,q _ (I.hok.fresh (Ni _))⟩
structure yB (lo hi st) (n:Nat):Prop where
 sm:Oo.Range.small lo hi st=true
 sz:Oo.Range.rangeSize lo hi st=n
 le:n<=2 ^ 20
theorem Inv.IL {σ:St}{lo hi st:Int} (I:Inv X pins σ H s) (h:H p=some (sA p lo hi st)):∃t u v,IsRange s.heap p lo hi st t u v:=by
 obtain⟨⟨t,u,v,e⟩,_⟩:=I.hok p _ h
 grind
theorem qc (hc:X.calm=true):bB X (.type "list") (fun vs H Q=>∃p lo hi st n,vs=[.ref p]/\H p=some (sA p lo hi st)/\yB lo hi st n/\∀l,H l=none->Q (.ref l) (upd H l (.lst ((uU lo st n).map V.int)))):=by
 intro pins s σ H xs us Q I r h
 obtain⟨p,lo,hi,st,n,rfl,hp,ok,q⟩:=h
 obtain⟨u,rfl,rx⟩:=vals1 r
 cases rx
 obtain⟨t,u,v,hr⟩:=I.IL hp
 have hn:=ok.le
 refine call_list_range (I.ok.hd hc) hr ok.sm ok.sz (by lia) fun h' tk acc c kp e hi=>?_
 have hv:=v9 hi
 refine⟨.ref s.heap.objs.size,_,I.laid kp (Ni _) (show bK X.prog X.w _ h' _ (.lst _) from⟨?_,acc.toList,c,hv,by omega⟩),rfl,q _ (I.hok.fresh (Ni _))⟩
 rw[Nw,vG,Oi];lia
end
section
variable {X:Cx}
theorem Aw (h1:-1000000<=a) (h2:a<=1000000) (h3:-1000000<=b) (h4:b<=1000000) (h:b - a<=1000000):yB a b 1 (b - a).toNat:=
 ⟨small_one (by lia) (by lia) (by lia) (by lia),by rw[rangeSize_one];lia,by lia⟩
theorem Vals.get' {xs:List V}{us:List Ng}{i:Nat}{u:Ng} (r:Vals xs us) (h:us[i]?=some u):∃x,xs[i]?=some x/\RelV x u:=by
 have hl:=r.length
 have hi:i<xs.length:=by rw[hl];exact(NV.mp h).1
 obtain⟨u',e1,e2⟩:=r.get (Np hi)
 rw[h] at e1;cases e1
 exact⟨_,Np hi,e2⟩
end
theorem Ag (h:ns.Nodup):(unl ns).length=ns.length:=by
 have key:∀(l acc:List Int),(acc++l).Nodup->l.foldl SV acc=acc++l:=by
  intro l
  induction l with
  | nil=>simp
  | cons a r ih=>
   intro acc hn
   have h1:a∉acc:=by
    grind
   have e:SV acc a=acc++[a]:=by
    unfold SV
    simp_all
   simp_all
 have e:(Nj ns.length).map (fun i=>ns.getD i 0)=ns:=by
  apply QZ
  ·simp
  simp_all
 unfold unl firstMet
 simp_all
theorem Inv.FW {X:Cx}{pins:List (Addr × Obj)}{σ:St}{H:Hp}{s:Nk}{C:Addr}{o:Obj}{h':Heap} (I:Inv X (pins++[(C,o)]) σ H s) (cC:∀x c,X.env.cells.lookup x=some c->c≠C) (hC:X.aD.heap.objs.size<=C) (pC:∀p∈X.pn++pins,p.1≠C) (hs:PF C s.heap h'):Inv X pins σ H { s with heap:=h' }:=by
 have kb:∀b u,b≠C->s.heap.get? b=some u->h'.get? b=some u:=fun b u hb z=>hs.extBut b u hb z
 obtain⟨q0,q1,q2,q3,q4⟩:=I.pin (C,o) (Nl _ (Nl _ (Nz.mpr rfl)))
 have J:Inv X pins σ H s:=I.jW fun p hp=>I.pin p (Nl _ (Q6 _ hp))
 refine J.uH (s':={ s with heap:=h' }) (ch:=[C]) rfl ⟨fun b u z n a c=>kb b u (fun e=>c (by rw[e];exact Nz.mpr rfl)) z,fun b u z n a c=>⟨u.slots,kb b _ (fun e=>c (by rw[e];exact Nz.mpr rfl)) z⟩,fun b u z n c=>n,fun b u z c=>⟨u,kb b u (fun e=>c (by rw[e];exact Nz.mpr rfl)) z⟩,fun b xs z=>z,fun b ob u z=>z,fun b ps z=>⟨#[],by simpa using z⟩⟩ (J.hok.sameBut q1 kb) J.bare fun b hb=>?_
 have e:=Nz.mp hb
 subst e
 exact⟨.inr hC,q2,fun x c z=>cC x c z,pC⟩
section
variable {prog:NC}{w:N4}{A:N1}{E:Ng->Nk->Prop}{s:Nk}
theorem xm (hi:s.heap.IsTupleIter it t i) (ht:s.heap.IsTuple t its) (hx:its[i]?=some x) (hQ:∀h',h'.IsTupleIter it t (i+1)->PF it s.heap h'->Q x { s with heap:=h' }) :
  wpAny (model prog w) A (Oo.SmallTypes.nextOf (.ref it)) Q E s:=by
 obtain⟨oi,h1,h2,h3⟩:=id hi
 obtain⟨ot,k1,_,nt,k2⟩:=ht
 refine gV (OP hi.typeIs Ph (OE Ph hi.typeIs F.entry_tuple_iterator_next ?_ (F.args_tuple_iterator_next_1 _)))
 refine gV (m:=field (.ref it) 0) (QH h1 h3 rfl ?_)
 show wpAny _ _ (if (Oj t == OI)=true then _ else field (.ref it) 1 >>= _) _ _ s
 refine gV (QH h1 h3 rfl (gV (RA k1 k2 ?_)))
 simp only[P2,hx]
 exact gV (RB h1 h3 (by simp) (k5 ⟨x,rfl,k5 (hQ _ ⟨_,PV _ h1 (Obj.isFreed_of_fields (Qv h3 _)),(Obj.cls_mapFields ..).trans h2,by rw[Qv h3];rfl⟩ (OV ..))⟩))
theorem qB (hh:A.handled=none) (hi:s.heap.IsTupleIter it t i) (ht:s.heap.IsTuple t its) (hx:its[i]?=none)
  (hE:∀h' e,Heap.ExtBut it s.heap h'->(∃o,h'.get? e=some o/\o.cls=.type "StopIteration")->E (.ref e) { s with heap:=h' }):wpAny (model prog w) A (Oo.SmallTypes.nextOf (.ref it)) Q E s:=by
 obtain⟨oi,h1,h2,h3⟩:=id hi
 obtain⟨ot,k1,_,nt,k2⟩:=ht
 refine gV (OP hi.typeIs Ph (OE Ph hi.typeIs F.entry_tuple_iterator_next ?_ (F.args_tuple_iterator_next_1 _)))
 refine gV (m:=field (.ref it) 0) (QH h1 h3 rfl ?_)
 show wpAny _ _ (if (Oj t == OI)=true then _ else field (.ref it) 1 >>= _) _ _ s
 refine gV (QH h1 h3 rfl (gV (RA k1 k2 ?_)))
 simp only[P2,hx]
 refine gV (R4 (gV (RB h1 h3 (by simp) (gV ?_))))
 refine gV (N_ (gV (Sg (by rfl) (N_ ?_ (by size_fits)))) (by size_fits))
 refine gV (wpAny_handled ?_)
 rw[show A.in1.handled=none from hh]
 exact gV (k5 (wpAny_throw (hE _ _ (((OV ..).extBut.push _).push _) ⟨_,Nm _ rfl,rfl⟩)))
end
theorem Draws.tup {prog:NC}{w:N4}{A:N1} (hh:A.handled=none) (it t:Addr) (hne:t≠it) (its:Array Ng):Draws prog w A it [it,t] its.size (fun i v=>its[i]?=some v) (fun i h=>h.IsTupleIter it t i/\h.IsTuple t its) where
 live:=fun _ _ z=>let ⟨o,ho,_⟩:=z.1;⟨o,ho⟩
 frame:=fun _ _ _ z hk=>⟨z.1.at fun o e=>hk it (by simp) o e,z.2.at fun o e=>hk t (by simp) o e⟩
 item:=fun i s Q E hi z hQ=>xm z.1 z.2 (x:=its[i]) (by simp[hi]) fun h' a b=>hQ _ h' s.toks (by simp[hi]) ⟨a,z.2.extBut b.extBut hne⟩ b
 done:=fun s Q E z hE=>qB hh z.1 z.2 (by simp) hE
section
open AutoSeq1 (wpAny_loadPart')
theorem wo (t) (its) (n) (dct) (sl) :
  Meets (Oo.«enumerate.__new__» ⟨[.type "enumerate", .ref t],[]⟩) (fun _ R s=>s.heap.get? t=some { cls:=.type "tuple", dict:=dct,data:=.seq its n,slots:=sl } ∧
   R (.ok (.ret (.ref (s.heap.push { cls:=.type "tuple_iterator", data:=.fields #[.ref t,.int 0 0] }).objs.size))) { s with heap:=(s.heap.push { cls:=.type "tuple_iterator", data:=.fields #[.ref t,.int 0 0] }).push { cls:=.type "enumerate", data:=.fields #[.none,.bool false,.ref s.heap.objs.size,rawInt 0,.none,.none] } }):=
 .of_wp fun prog w A R s z=>by
  obtain⟨hp,gs,dr,tk,os⟩:=s;obtain⟨ht,z⟩:=z
  have su:=sub_enumerate
  have hT:Heap.IsTuple (Nk.heap ⟨hp,gs,dr,tk,os⟩) t its:=⟨_,ht,rfl,n,rfl⟩
  wp_walk using Rm ht
  refine wpAny_stack_any fun st=>k5 ?_
  split
  ·rename_i c _ _ _ _ _
   cases (c == QG "enumerate")<;>(wp_walk using Rm ht,PN hT;exact⟨_,rfl,z⟩)
  ·(wp_walk using Rm ht,PN hT);exact⟨_,rfl,z⟩
end
section
variable {prog:NC}{w:N4}{A:N1}{E:Ng->Nk->Prop}{s:Nk}
theorem IF (hT:s.heap.IsTuple t its)
  (q:∀h',Tc h' (s.heap.objs.size+1) s.heap.objs.size 0 .none->h'.IsTupleIter s.heap.objs.size t 0->h'.objs.size=s.heap.objs.size+2->(∀b o,s.heap.get? b=some o->h'.get? b=some o)->Q (.ref (s.heap.objs.size+1)) { s with heap:=h' }) :
  wpAny (model prog w) A (call (.type "enumerate") [.ref t]) Q E s:=by
 obtain⟨⟨c,dct,dt,sl⟩,ht,hc,n,hd⟩:=hT
 subst hc hd
 refine callType_new F.called_enumerate (by decide) (F.typeCall_enumerate_1 _) (F.newCall_enumerate_1 _) (fun obj=>F.args_object_init_2 obj _) F.entry_enumerate_new (wo t its n dct sl) ⟨ht,?_⟩
 have hz:(s.heap.push { cls:=.type "tuple_iterator", data:=.fields #[.ref t,.int 0 0] }).objs.size=s.heap.objs.size+1:=QO ..
 rw[hz]
 have he:Tc ((s.heap.push { cls:=.type "tuple_iterator", data:=.fields #[.ref t,.int 0 0] }).push { cls:=.type "enumerate", data:=.fields #[.none,.bool false,.ref s.heap.objs.size,rawInt 0,.none,.none] }) (s.heap.objs.size+1) s.heap.objs.size 0 .none:=by
  have y:=Nm (s.heap.push { cls:=.type "tuple_iterator", data:=.fields #[.ref t,.int 0 0] }) (o:={ cls:=.type "enumerate", data:=.fields #[.none,.bool false,.ref s.heap.objs.size,rawInt 0,.none,.none] }) rfl
  grind
 exact⟨⟨_,he,rfl⟩,q _ he ⟨_,k3 _ (Nm _ rfl),rfl,rfl⟩ (by simp) fun b o x=>k3 _ (k3 _ x)⟩
end
theorem Inv.yielded {X:Cx}{pins:List (Addr × Obj)}{σ:St}{H:Hp}{s:Nk}{fp:List Addr}{T:Addr}{o:HO}{h':Heap}{t':Nat} (I:Inv X pins σ H s) (hf:∀b∈fp,mj X pins H b) (k:∀b u,b∉fp->s.heap.get? b=some u->h'.get? b=some u)
  (hT:s.heap.objs.size<=T) (new:bK X.prog X.w (upd H T o) h' T o):Inv X pins σ (upd H T o) { s with heap:=h',toks:=t' }:=by
 have nT:∀b u,s.heap.get? b=some u->b≠T:=fun b u e z=>absurd (Nh e) (by rw[z];exact Rf.mpr hT)
 have nH:∀b u,H b=some u->b≠T:=fun b u e z=>absurd (I.hok.lt e) (by rw[z];exact Rf.mpr hT)
 have nf:∀b u,H b=some u->b∉fp:=fun b u e z=>by rw[(hf b z).1] at e;cases e
 refine I.uH (s':={ s with heap:=h',toks:=t' }) rfl ⟨fun b u e n _ c=>k b u c e,fun b u e n _ c=>⟨u.slots,k b u c e⟩,fun b u e n c=>by rw[aQ (nT b u e)];exact n,fun b u e c=>⟨u,k b u c e⟩,fun b xs e=>by rw[aQ (nH b _ e)];exact e,fun b ob u e=>by rw[aQ (nH b _ e)];exact e,fun b ps e=>⟨#[],by rw[aQ (nH b _ e),e];simp⟩⟩ (fun b u e=>?_) I.bare (fun b hb=>?_)
 ·by_cases hb:b=T
  ·subst hb
   rw[bp] at e
   cases e
   exact new
  ·rw[aQ hb] at e
   refine(I.hok b u e).kW (fun c v hc q=>k c v ?_ q) (fun c q=>by rw[aQ (nH c _ q)];exact q) fun c xs q=>by rw[aQ (nH c _ q)];exact q
   rcases hc with z | z
   ·rw[z];exact nf b u e
   ·exact nf c _ z
 ·obtain⟨_,g1,_,g3,g4,g5⟩:=hf b hb
  exact⟨g3,g1,g4,g5⟩
theorem Inv.yC {σ:St}{fp:List Addr} (I:Inv X pins σ H s) (hf:∀b∈fp,mj X pins H b) (k:∀b u,b∉fp->s.heap.get? b=some u->h'.get? b=some u):Inv X pins σ H { s with heap:=h',toks:=t' }:=by
 have nf:∀b u,H b=some u->b∉fp:=fun b u e z=>by rw[(hf b z).1] at e;cases e
 refine I.uH (s':={ s with heap:=h',toks:=t' }) rfl ⟨fun b u e n _ c=>k b u c e,fun b u e n _ c=>⟨u.slots,k b u c e⟩,fun b u e n c=>n,fun b u e c=>⟨u,k b u c e⟩,fun b xs e=>e,fun b ob u e=>e,fun b ps e=>⟨#[],by grind⟩⟩ (fun b u e=>?_) I.bare (fun b hb=>?_)
 ·refine(I.hok b u e).kW (fun c v hc q=>k c v ?_ q) (fun c q=>q) fun c xs q=>q
  grind
 ·obtain⟨_,g1,_,g3,g4,g5⟩:=hf b hb
  grind
noncomputable def Iel (K:ab) (a:Addr):It:=
 ⟨fun i H=>∃xs x,SqL K H a xs/\xs[i]?=some x,fun i H x H'=>∃p v,x=.ref p/\H p=none/\(∀xs,SqL K H a xs->xs[i]?=some v)/\H'=upd H p (.tup [.int i,v]),fun i H=>∃xs,SqL K H a xs/\xs.length<=i⟩
noncomputable def Iet (K:ab) (a:Addr):It:=
 ⟨fun i H=>∃xs x,SqT K H a xs/\xs[i]?=some x,fun i H x H'=>∃p v,x=.ref p/\H p=none/\(∀xs,SqT K H a xs->xs[i]?=some v)/\H'=upd H p (.tup [.int i,v]),fun i H=>∃xs,SqT K H a xs/\xs.length<=i⟩
theorem oY {St:Nat->Heap->Prop} (D:Draws prog w A.in1 it fp n P St) (e) (hei:e≠it) (hef:e∉fp) (i) (s:Nk) (Q) (E) (hi:i<n)
  (hst:(∃old,Tc s.heap e it i old)/\St i s.heap)
  (hQ:∀T vals h' tk,(∃t x,P i x/\vals = #[.int i t,x])->s.heap.objs.size<=T->ng h' T vals->((∃x,IsEnumOut h' e it ((i:Int)+1) x T)/\St (i+1) h'/\T≠e/\T≠it)->(∀b o,b∉[e,it]->s.heap.get? b=some o->h'.get? b=some o)->Q (some (.ref T)) { s with heap:=h',toks:=tk }) :
  wpAny (model prog w) A (pyNext (.ref e)) Q E s:=by
 obtain⟨⟨old,he⟩,hs⟩:=hst
 refine wpAny_pyNext_enum_itemD D he hs hi hei hef fun x h1 tk hP ho hs1 hT _ hk=>?_
 refine hQ s.heap.objs.size #[.int i tk,x] h1 (tk+1) ⟨tk,x,hP,rfl⟩ (Ni _) ⟨_,hT,⟨rfl,_,rfl⟩,rfl⟩ ⟨⟨_,ho⟩,hs1,Qm (Nh he),?_⟩ fun b o hb y=>hk b o (fun z=>hb (by simp[z])) (fun z=>hb (by simp[z])) y
 obtain⟨_,y⟩:=D.live _ _ hs
 exact Qm (Nh y)
theorem BL {h:Heap}{e it:Addr}{i:Int}{old:Ng} (z:Tc h e it i old):∃o,h.get? e=some o/\∀v,o.data≠.cell v:=⟨_,z,fun v q=>nomatch q⟩
theorem w8 {P:NC}{w:N4}{K:ab}{elts:List Expr}{k:Nat}{pos:Pos}{a it e:Addr} (hei:e≠it):Turn P w K (.Tuple elts k pos) (Iel K a) [e,it] e (fun i h=>(∃old,Tc h e it i old)/\h.IsListIter it a i) where
 mem:=by simp
 obj:=fun i h z b hb=>by
  obtain⟨⟨old,z1⟩,z2⟩:=z
  rcases Nx.mp hb with rfl | hb
  ·exact BL z1
  ·rw[Nz.mp hb]
   obtain⟨o,q,_,d⟩:=z2
   exact⟨o,q,fun v y=>by rw[d] at y;cases y⟩
 keep:=fun i h h' z kk=>⟨let ⟨old,z1⟩:=z.1;⟨old,kk e (by simp) _ z1⟩,z.2.at fun o q=>kk it (by simp) o q⟩
 item:=by
  intro X hP hw hK hc i pins s σ H E I hf st hg
  subst hP hw hK
  obtain⟨xs,x,hq,hx⟩:=hg
  obtain⟨its,rv,p,hz⟩:=I.list hq
  obtain⟨u,hu,ru⟩:=rv.get hx
  have hl:=rv.length
  have plt:a<s.heap.objs.size:=by obtain⟨o,q,_⟩:=p.isList;exact Nh q
  have hai:a≠it/\a≠e:=by
   obtain⟨oa,qa,ca,_⟩:=p.isList
   obtain⟨⟨old,z1⟩,oi,qi,ci,_⟩:=st
   exact⟨(fun q=>by rw[q,qi] at qa;cases qa;rw[ci] at ca;injection ca with y;exact absurd y (by decide)),(fun q=>by rw[q,z1] at qa;cases qa;injection ca with y;exact absurd y (by decide))⟩
  have DD:=(Draws.list (prog:=X.prog) (w:=X.w) (A:=X.A.in1) (I.ok.hd hc) it a hai.1 its.toArray)
  have hef0:e∉[it,a]:=by simp;exact⟨hei,fun q=>hai.2 q.symm⟩
  have W:=WalksT.enumerateD (prog:=X.prog) (w:=X.w) (A:=X.A) DD e hei hef0 (by simp)
  refine oY DD e hei hef0 i s _ _ (by rw[NB,<- hl];exact(NV.mp hx).1) ⟨st.1,st.2,p.isList⟩ fun T vals h1 tk hv hT ht hm k1=>?_
  obtain⟨t,v,hv1,hv2⟩:=hv
  have ev:v=u:=by
   have:its[i]?=some v:=by simpa using hv1
   rw[hu] at this;exact(N5 this).symm
  subst ev
  refine⟨.ref T,rfl,W.go elts k pos i T { s with heap:=h1,toks:=tk } _ _ hm fun h2 st2 k2=>?_⟩
  have kk:∀b o,b∉[e,it]->s.heap.get? b=some o->h2.get? b=some o:=fun b o hb q=>k2 b o hb (k1 b o hb q)
  have hT2:ng h2 T vals:=by
   obtain⟨o,q,c⟩:=ht
   exact⟨o,k2 T o (fun z=>W.apart _ _ _ hm z) q,c⟩
  have hn:H T=none:=I.hok.fresh hT
  have nTf:∀b∈[e,it],b≠T:=fun b hb z=>by
   have hlt:b<s.heap.objs.size:=by
    rcases Nx.mp hb with rfl | hb
    ·obtain⟨old,z1⟩:=st.1;exact Nh z1
    ·rw[Nz.mp hb];obtain⟨o,q,_⟩:=st.2;exact Nh q
   rw[z] at hlt;exact absurd hlt (Rf.mpr hT)
  refine⟨.ref T,upd H T (.tup [.int i,x]),I.yielded (t':=tk) hf kk hT ⟨by show 2<=sizeLine;decide,[.int i t,v],.cons ⟨t,rfl⟩ (.cons ru .nil),?_⟩,rfl,⟨T,x,rfl,hn,fun ys hy=>by rw[I.ow hy hq];exact hx,rfl⟩,⟨st2.1,st2.2.1⟩,fun b hb=>by rw[aQ (nTf b hb)];exact(hf b hb).1⟩
  rw[hv2] at hT2;exact hT2
 done:=by
  intro X hP hw hK hc i pins s σ H E I hf st hg
  subst hP hw hK
  obtain⟨xs,hq,hx⟩:=hg
  obtain⟨its,rv,p,hz⟩:=I.list hq
  obtain⟨⟨old,z1⟩,z2⟩:=st
  have hl:=rv.length
  exact wpAny_pyNext_enum_end (I.ok.hd hc) z1 z2 p.isList (QD (by rw[NB];lia)) fun h' eb=>⟨rfl,I.yC (t':=s.toks) hf fun b u hb q=>eb b u (fun z=>hb (by simp[z])) q⟩
 self:=fun A i s Q E z q=>by
  obtain⟨⟨old,z1⟩,z2⟩:=z
  exact QJ z1 q
theorem wF {P:NC}{w:N4}{K:ab}{elts:List Expr}{k:Nat}{pos:Pos}{a it e:Addr} (hei:e≠it):Turn P w K (.Tuple elts k pos) (Iet K a) [e,it] e (fun i h=>(∃old,Tc h e it i old)/\h.IsTupleIter it a i) where
 mem:=by simp
 obj:=fun i h z b hb=>by
  obtain⟨⟨old,z1⟩,z2⟩:=z
  rcases Nx.mp hb with rfl | hb
  ·simp_all
  ·rw[Nz.mp hb]
   obtain⟨o,q,_,d⟩:=z2
   simp_all
 keep:=fun i h h' z kk=>⟨let ⟨old,z1⟩:=z.1;⟨old,kk e (by simp) _ z1⟩,z.2.at fun o q=>kk it (by simp) o q⟩
 item:=by
  intro X hP hw hK hc i pins s σ H E I hf st hg
  subst hP hw hK
  obtain⟨xs,x,hq,hx⟩:=hg
  obtain⟨its,rv,p,hz⟩:=I.tuple hq
  obtain⟨u,hu,ru⟩:=rv.get hx
  have hl:=rv.length
  have plt:a<s.heap.objs.size:=by obtain⟨o,q,_⟩:=(show s.heap.IsTuple a its.toArray from p);exact Nh q
  have hai:a≠it/\a≠e:=by
   obtain⟨oa,qa,ca,_⟩:=(show s.heap.IsTuple a its.toArray from p)
   obtain⟨⟨old,z1⟩,oi,qi,ci,_⟩:=st
   grind
  have DD:=(Draws.tup (prog:=X.prog) (w:=X.w) (A:=X.A.in1) (I.ok.hd hc) it a hai.1 its.toArray)
  have hef0:e∉[it,a]:=by grind
  have W:=WalksT.enumerateD (prog:=X.prog) (w:=X.w) (A:=X.A) DD e hei hef0 (by simp)
  refine oY DD e hei hef0 i s _ _ (by grind) ⟨st.1,st.2,(show s.heap.IsTuple a its.toArray from p)⟩ fun T vals h1 tk hv hT ht hm k1=>?_
  obtain⟨t,v,hv1,hv2⟩:=hv
  have ev:v=u:=by
   simp_all
  subst ev
  refine⟨.ref T,rfl,W.go elts k pos i T { s with heap:=h1,toks:=tk } _ _ hm fun h2 st2 k2=>?_⟩
  have kk:∀b o,b∉[e,it]->s.heap.get? b=some o->h2.get? b=some o:=fun b o hb q=>k2 b o hb (k1 b o hb q)
  have hT2:ng h2 T vals:=by
   obtain⟨o,q,c⟩:=ht
   exact⟨o,k2 T o (fun z=>W.apart _ _ _ hm z) q,c⟩
  have hn:H T=none:=I.hok.fresh hT
  have nTf:∀b∈[e,it],b≠T:=fun b hb z=>by
   simp_all
  refine⟨.ref T,upd H T (.tup [.int i,x]),I.yielded (t':=tk) hf kk hT ⟨by show 2<=sizeLine;decide,[.int i t,v],.cons ⟨t,rfl⟩ (.cons ru .nil),?_⟩,rfl,⟨T,x,rfl,hn,fun ys hy=>by rw[I.kQ hy hq];exact hx,rfl⟩,⟨st2.1,st2.2.1⟩,fun b hb=>by rw[aQ (nTf b hb)];exact(hf b hb).1⟩
  simp_all
 done:=by
  intro X hP hw hK hc i pins s σ H E I hf st hg
  subst hP hw hK
  obtain⟨xs,hq,hx⟩:=hg
  obtain⟨its,rv,p,hz⟩:=I.tuple hq
  obtain⟨⟨old,z1⟩,z2⟩:=st
  have hl:=rv.length
  have pt:s.heap.IsTuple a its.toArray:=p
  have DD:Draws X.prog X.w X.A.in1 it [it,a] i (fun _ _=>True) (fun j h=>j=i/\h.IsTupleIter it a j/\h.IsTuple a its.toArray):={
   live:=fun _ _ z=>let ⟨o,ho,_⟩:=z.2.1;⟨o,ho⟩
   frame:=fun _ _ _ z hk=>⟨z.1,z.2.1.at fun o e=>hk it (by simp) o e,z.2.2.at fun o e=>hk a (by simp) o e⟩
   item:=fun j s Q E hj z hQ=>absurd z.1 (NA hj)
   done:=fun s Q E z hE=>qB (I.ok.hd hc) z.2.1 z.2.2 (QD (by simp_all)) hE }
  exact wpAny_pyNext_enum_endD DD z1 ⟨rfl,z2,pt⟩ fun h' eb=>⟨rfl,I.yC (t':=s.toks) hf fun b u hb q=>eb b u (fun z=>hb (by simp[z])) q⟩
 self:=fun A i s Q E z q=>by
  obtain⟨⟨old,z1⟩,z2⟩:=z
  exact QJ z1 q
noncomputable def Jk (K:ab) (tl:TE):TI:=fun σ H R=>tl σ H fun x H1=>∃a,x=.ref a/\(((∃xs,SqL K H1 a xs)/\R (Iel K a) H1)\/((∃xs,SqT K H1 a xs)/\R (Iet K a) H1))
theorem Ea {X:Cx}{elts:List Expr}{kt:Nat}{tp p pos:Pos}{l:Expr}{tl:TE} (hg:Gl X "enumerate") (hm:X.mg "enumerate" = none) (hl:PE X l tl) (hs:starEach [l] X.env=[(false,eval l X.env)]:=by rfl) :
  PI X (.Tuple elts kt tp) (.Call (.Name "enumerate" p) [l] [] pos) (Jk X.K tl):=by
 intro pins s σ H R I h
 have h':E3 tl Jl σ H (fun vs H1=>match vs with
  | [x]=>∃a,x=.ref a/\(((∃xs,SqL X.K H1 a xs)/\R (Iel X.K a) H1)\/((∃xs,SqT X.K H1 a xs)/\R (Iet X.K a) H1))
  | _=>False):=h
 refine Call_ (kI I hg hm PyProof.Rows.boot_enumerate (Pc (thn (i8 hl oJ hs pos pins s σ H _ I h') fun us s1 ⟨vs,H1,I1,r1,q1⟩=>?_) hs rfl))
 cases r1 with
 | nil=>simp_all
 | cons r rr=>
  cases rr with
  | cons _ _=>simp_all
  | nil=>
   obtain⟨a,rfl,q⟩:=q1
   cases r
   have fp:∀{h':Heap},∀b∈[s1.heap.objs.size+1,s1.heap.objs.size],mj X pins H1 b:=fun{h'} b hb=>by
    have hb':s1.heap.objs.size<=b:=by
     grind
    exact I1.Dt hb' (I1.hok.fresh hb')
   rcases q with⟨⟨xs,hq⟩,q⟩ | ⟨⟨xs,hq⟩,q⟩
   ·obtain⟨its,rv,pl,hz⟩:=I1.list hq
    refine call_enumerate_list pl.isList fun h2 z1 z2 hsz kp=>QJ (s:={ s1 with heap:=h2 }) z1 ?_
    exact⟨s1.heap.objs.size+1,[s1.heap.objs.size+1,s1.heap.objs.size],_,_,H1,rfl,I1.kept kp,w8 (Nat.succ_ne_self _),⟨⟨_,z1⟩,z2⟩,fp (h':=h2),q⟩
   ·obtain⟨its,rv,pl,hz⟩:=I1.tuple hq
    refine IF (show s1.heap.IsTuple a its.toArray from pl) fun h2 z1 z2 hsz kp=>QJ (s:={ s1 with heap:=h2 }) z1 ?_
    exact⟨s1.heap.objs.size+1,[s1.heap.objs.size+1,s1.heap.objs.size],_,_,H1,rfl,I1.kept kp,wF (Nat.succ_ne_self _),⟨⟨_,z1⟩,z2⟩,fp (h':=h2),q⟩
noncomputable def p6 (nt:Nat) (ix:List Nat) (σ:St):St:=NS nt none++ix.map fun i=>(σ[i]?).join
noncomputable def iy (nt:Nat) (ix:List Nat) (σ σ':St):Prop:=∃ts:St,ts.length=nt/\σ'=ts++ix.map fun i=>(σ[i]?).join
noncomputable abbrev Ia (J:It) (nt:Nat) (ix:List Nat) (σ:St) (tg:TG) (tt:TT) (te:TE) (acc:Addr) (H1:Hp) (Q:VK):Prop:=
 ∃W:Nat->Nat->List V->Hp->Prop,(∃m,W 0 m [] (upd H1 acc (.lst [])))/\∀i m ys H,W i m ys H →
  (J.stop i H/\Q (.ref acc) H)\/(J.go i H/\∀σ0 x H',iy nt ix σ σ0->J.yld i H x H'->tg x σ0 H' fun σ2 Hn=>iy nt ix σ σ2/\tt σ2 Hn fun b H2=>if b=true then te σ2 H2 fun y H3=>
    H3 acc=some (.lst ys)/\ys.length<sizeLine/\∃m',m'<m/\W (i+1) m' (ys++[y]) (upd H3 acc (.lst (ys++[y])))
   else ∃m',m'<m/\W (i+1) m' ys H2)
noncomputable def sY (wi:TI) (nt:Nat) (ix:List Nat) (tg:TG) (tt:TT) (te:TE):TE:=fun σ H Q=>wi σ H fun J H1=>∀acc,H1 acc=none->Ia J nt ix σ tg tt te acc H1 Q
theorem qy {X:Cx}{use:Option (Ng->Sem Unit)}{Q2:Ng->Nk->Prop}{pins:List (Addr × Obj)}{s:Nk}{σ:St}{H:Hp}{Q:VK}{elt iter tg:Expr}{tn':List Str}{tgr:TG}{ifs:List Expr}{scope osc:Rh}{pos:Pos}{wi:TI}{tt:TT}{te:TE} (ix:List Nat) (N':List Str)
  (hxe:X.xe=fun _ _=>False) (hc:X.calm=true) (ho:X.env.scope=osc) (hN:N'=tn'++ix.map fun i=>(X.N[i]?).getD ("" : Str)) (hnd:N'.Nodup)
  (hall:(∀y∈scope.names,y.2=.free->osc.names.lookup y.1=some .cell)/\(∀y∈scope.names,y.2≠.cell)/\scope.kind=.function/\(∀y∈scope.names,y.2=.local->scope.names.lookup y.1=some .local)/\(∀y∈N'.drop tn'.length,scope.names.lookup y=some .free))
  (hi:PI X tg iter wi) (hg:∀cl C aD aK fp,PG (bG X scope cl C aD aK fp N') tg tgr)
  (ht:∀cl C aD aK fp,PTs (bG X scope cl C aD aK fp N') ifs tt)
  (he:∀cl C aD aK fp,PE (bG X scope cl C aD aK fp N') elt te)
  (hs:∀x,foldedSetIterable iter X.env x=pure x) (I:Inv X pins σ H s) (h:sY wi tn'.length ix tgr tt te σ H Q)
  (hfin:∀(acc C:Addr) (H5:Hp) (s5:Nk) (o:Obj),Inv X (pins++[(C,o)]) σ H5 s5->(∀x c,X.env.cells.lookup x=some c->c≠C)->X.aD.heap.objs.size<=C->(∀p∈X.pn++pins,p.1≠C)->(∃m,∀h':Heap,h'.get? C=some o->h'.Ns C m)->Q (.ref acc) H5->compPost (model X.prog X.w) X.A X.xe use Q2 (.ref acc) C (.ok .next) s5) :
  wpAny (model X.prog X.w) X.A (comprehension (.ListComp elt [⟨tg,iter,ifs,0⟩] scope pos) scope X.env (firstIterPos [⟨tg,iter,ifs,0⟩] pos) (newList []) false (eval iter X.env) use) Q2 X.xe s:=by
 obtain⟨hfr,hcell,hkind,hnames,hcap⟩:=hall
 subst ho
 have outc:=fun y hy q=>hfr y hy q
 obtain⟨cl,hclos,hcl1,hcl2⟩:=ju fun y hy q=>I.ok.has y.1 (.inl (outc y hy q))
 refine wpAny_comprehension_free rfl hs hclos hkind hnames (thn (hi pins s σ H _ I h) fun v s1 h1=>thn h1 fun itv s2 h2=>?_)
 obtain⟨it,fp,tn,J,H2,e,I2,T,st2,f2,rest⟩:=h2
 subst e
 have hf2:=I2.hok.fresh (Ni _)
 obtain⟨W,⟨m0,w0⟩,turn⟩:=rest s2.heap.objs.size hf2
 refine N_ ?_
 have I3:=I2.Dj (t':=s2.toks) .nil (Ox _)
 have keep3:∀b o,s2.heap.get? b=some o->(s2.heap.push { cls:=.type "list", dict:=none,data:=.seq ([]:List Ng).toArray }).get? b=some o:=fun b o q=>k3 _ q
 have fp3:=T.obj _ _ st2
 have st3:=T.keep _ _ _ st2 fun b _ o q=>keep3 b o q
 have fpn:∀b∈fp,(upd H2 s2.heap.objs.size (HO.lst [])) b=none:=fun b hb=>by
  obtain⟨o,q,_⟩:=fp3 b hb
  rw[aQ (NA (Nh q))]
  exact(f2 b hb).1
 revert I3 keep3 st3 fpn w0
 generalize hS3:({ s2 with heap:=s2.heap.push { cls:=.type "list", dict:=none,data:=.seq ([]:List Ng).toArray } }:Nk)=s3
 generalize hH3:upd H2 s2.heap.objs.size (HO.lst [])=H3
 intro w0 I3 keep3 st3 fpn
 generalize s2.heap.objs.size=acc at *
 have e3:s2.heap.push { cls:=.type "list", dict:=none,data:=.seq ([]:List Ng).toArray }=s3.heap:=by rw[<- hS3]
 have keep3':∀b o,s2.heap.get? b=some o->s3.heap.get? b=some o:=fun b o q=>by rw[<- e3];exact keep3 b o q
 have st3':tn 0 s3.heap:=by rw[<- e3];exact st3
 refine Q8 hcell (by intro y hy;simp at hy) (fun h₁ hns₁ hsb₁=>?_) hkind
 have hC:s3.heap.objs.size=s3.heap.objs.size:=rfl
 have keep4:∀b o,s3.heap.get? b=some o->h₁.get? b=some o:=fun b o q=>hsb₁.extBut b o (NA (Nh q)) (k3 _ q)
 have fpC:∀b∈fp,b≠s3.heap.objs.size:=fun b hb=>by
  obtain⟨o,q,_⟩:=fp3 b hb
  exact NA (Nh (keep3' b o q))
 -- the block's context
 generalize hX':bG X scope cl s3.heap.objs.size s3 H3 fp N'=X'
 have hXp:X'.prog=X.prog:=by rw[<- hX'];rfl
 have hXw:X'.w=X.w:=by rw[<- hX'];rfl
 have hXK:X'.K=X.K:=by rw[<- hX'];rfl
 have hXA:X'.A=X.A:=by rw[<- hX'];rfl
 have hXe:X'.env=compEnvC scope cl s3.heap.objs.size X.env:=by rw[<- hX'];rfl
 have hXc:X'.calm=true:=by rw[<- hX'];exact hc
 have hXx:X'.xe=fun _ _=>False:=by rw[<- hX'];exact hxe
 have hXf:X'.fs=frs X.stack:=by rw[<- hX'];rfl
 have hXex:X'.ex=fp:=by rw[<- hX'];rfl
 have hXN:X'.N=N':=by rw[<- hX'];rfl
 have hXs:X'.aD=s3:=by rw[<- hX'];rfl
 have hXH:X'.aK=H3:=by rw[<- hX'];rfl
 have hXpn:X'.pn=[]:=by rw[<- hX'];rfl
 have okX:X'.Ok:=by
  rw[<- hX']
  refine⟨I3.ok.mod,hkind,I3.ok.glob,I3.ok.blt,Ni _,fun a b c p q=>I3.ok.inj a b c (hcl1 a c p) (hcl1 b c q),fun y hy=>?_,fun _ _ z=>(by cases z),I3.ok.hd,I3.ok.frames,.inl rfl,fun b hb=>⟨fpC b hb,fun y c p=>(f2 b hb).2.2.2.2.1 y c (hcl1 y c p)⟩,
   I3.bs,NT I3.ok.bsz I3.sz,fun b o p hb=>?_,fun b hb z=>?_,I3.stack,I3.sH⟩
  ·have hy':(relabel scope X.env).names.lookup y=some .cell\/(relabel scope X.env).names.lookup y=some .free:=hy
   have free:scope.names.lookup y=some .free->∃c,cl.lookup y=some c:=fun q=>hcl2 y (lookup_mem q)
   rcases hy' with q | q
   ·rcases dU q with z | ⟨z,_⟩
    ·exact absurd rfl (hcell _ (lookup_mem z))
    ·exact free z
   ·rcases dU q with z | ⟨_,z⟩
    ·exact free z
    ·cases z
  ·rcases(f2 b hb).2.2.2.1 with z | z
   ·exact I3.ok.Ad b o p z
   ·exact absurd (NJ (Nh p) (NT I3.ok.bsz z)) (OD _)
  ·rcases Nx.mp (I3.k_ b z) with q | q
   ·exact(f2 b hb).2.1 q
   ·exact(f2 b hb).2.2.1 q
 have I4:∀tk,Inv X' [] (p6 tn'.length ix σ) H3 { s3 with heap:=h₁,toks:=tk }:=fun tk=>by
  have hloc:=I3.loc
  refine⟨okX,by rw[hXs],I3.bare,?_,⟨fun y=>([]:List (Str × Ng)).reverse.lookup y,by rw[hXe];exact hns₁,fun i y v e1 e2 e3=>?_⟩,fun y c p=>?_,?_,fun y c p=>?_,fun p hp=>?_,?_,?_⟩
  ·rw[hXf,hXex,hXH,hXs];exact Un.kept keep4
  ·rw[hXN,hN] at e1
   by_cases hit':i<tn'.length
   ·exfalso
    unfold p6 at e2
    rw[Nq (by simpa using hit'),PJ,if_pos hit'] at e2
    cases e2
   ·have e10:N'[i]?=some y:=by rw[hN];exact e1
    obtain⟨j,rfl⟩:∃j,i=tn'.length+j:=⟨i - tn'.length,by lia⟩
    have e1':(ix.map fun i=>(X.N[i]?).getD ("" : Str))[j]?=some y:=by
     rw[Ny (by lia)] at e1
     rw[show tn'.length+j - tn'.length=j by lia] at e1
     exact e1
    have e2':(ix.map fun i=>(σ[i]?).join)[j]?=some (some v):=by
     unfold p6 at e2
     rw[Ny (by simp)] at e2
     simpa using e2
    rw[NN] at e1' e2'
    cases hj:ix[j]? with
    | none=>rw[hj] at e1';cases e1'
    | some i0=>
     rw[hj] at e1' e2'
     have e1'':(X.N[i0]?).getD ("" : Str)=y:=by simpa using e1'
     have e2'':(σ[i0]?).join=some v:=by simpa using e2'
     have hsv:σ[i0]?=some (some v):=by
      cases q:σ[i0]? with
      | none=>rw[q] at e2'';cases e2''
      | some z=>rw[q] at e2'';have:z=some v:=by simpa using e2''
                rw[this]
     have hlt:i0<X.N.length:=by
      have:=(NV.mp hsv).1
      rw[I3.len] at this;exact this
     have hNy:X.N[i0]?=some y:=by
      rw[Np hlt] at e1'' ⊢
      simpa using e1''
     have hyt:y∈N'.drop tn'.length:=by
      refine NP (i:=j) ?_
      rw[PQ];exact e10
     have hyf:=hcap y hyt
     have hyc:=outc (y,.free) (lookup_mem hyf) rfl
     obtain⟨m,hn,hl⟩:=hloc
     obtain⟨u,r,l⟩:=hl i0 y v hNy hsv (.inr (.inl hyc))
     refine⟨u,r,?_⟩
     rcases l with⟨k1,_⟩ | ⟨_,c,p,z⟩
     ·have hyc':X.env.kindOf y=some .cell:=hyc
      rw[k1] at hyc';cases hyc'
     ·obtain⟨c',p'⟩:=hcl2 y (lookup_mem hyf)
      have pc:c'=c:=by
       have:=hcl1 y c' p'
       rw[p] at this;cases this;rfl
      subst pc
      refine .inr ⟨.inl ?_,c',by rw[hXe];exact p',?_⟩
      ·rw[hXe];exact dh I3.ok.kind hyf hyc
      ·obtain⟨o,q1,q2⟩:=z
       exact⟨o,keep4 c' o q1,q2⟩
  ·rw[hXe] at p
   obtain⟨v,o,q1,q2⟩:=I3.cell y c (hcl1 y c p)
   exact⟨v,o,keep4 c o q1,q2⟩
  ·rw[hXe];exact I3.hok.fresh (Ni _)
  ·rw[hXe] at p;exact I3.gM y c (hcl1 y c p)
  ·rw[hXpn] at hp;cases hp
  ·rw[hXp,hXw];exact I3.hok.kept keep4
  ·rw[hXN,hN];simp[p6]
 -- the loop
 have stat:∀{H':Hp},(∀b∈fp,H' b=none)->∀b∈fp,mj X' [] H' b:=fun hn b hb=>by
  refine⟨hn b hb,by rw[hXe];exact fpC b hb,?_,.inl (by rw[hXex];exact hb),fun y c p=>?_,fun p hp=>by rw[hXpn] at hp;cases hp⟩
  ·rw[hXf];intro z
   rcases Nx.mp (I3.k_ b z) with q | q
   ·exact(f2 b hb).2.1 q
   ·exact(f2 b hb).2.2.1 q
  ·rw[hXe] at p;exact(f2 b hb).2.2.2.2.1 y c (hcl1 y c p)
 have fin:∀{H5:Hp} {s5:Nk} {σ5:St},Inv X' [] σ5 H5 s5->Q (.ref acc) H5->compPost (model X.prog X.w) X.A X.xe use Q2 (.ref acc) s3.heap.objs.size (.ok .next) s5:=fun{H5 s5 σ5} I5 q=>by
  obtain⟨m,hn,_⟩:=I5.loc
  rw[hXe] at hn
  have hn':s5.heap.Ns s3.heap.objs.size m:=hn
  obtain⟨oC,esC,epC,hC1,hC2,hC3⟩:=hn'
  have u5:=I5.base
  rw[hXf,hXex,hXH,hXs] at u5
  have fr:H5 s3.heap.objs.size=none:=by have:=I5.free;rw[hXe] at this;exact this
  have hok5:=I5.hok
  rw[hXp,hXw] at hok5
  have hos:s5.os=s3.os:=by have:=I5.os;rw[hXs] at this;exact this
  have IX:Inv X pins σ H5 s5:=I3.uH (s':=s5) (ch:=fp) hos u5 hok5 I5.bare (fun b hb=>by
   obtain⟨g0,g1,g2,g3,g4,g5⟩:=f2 b hb
   exact⟨g3,g1,g4,g5⟩)
  have cC:∀x c,X.env.cells.lookup x=some c->c≠s3.heap.objs.size:=fun x c z e=>by
   obtain⟨v,q⟩:=I3.cell x c z
   exact absurd q.lt (by rw[e];exact OD _)
  have pC:∀p∈X.pn++pins,p.1≠s3.heap.objs.size:=fun p hp e=>by
   have:=Nh (I3.pin p hp).1
   rw[e] at this
   exact OD _ this
  refine hfin acc s3.heap.objs.size H5 s5 oC (IX.jW fun p hp=>?_) cC I3.sz pC ⟨m,fun h' z=>⟨oC,esC,epC,z,hC2,hC3⟩⟩ q
  rcases N9.mp hp with z | z
  ·exact IX.pin p (Nl _ z)
  ·have e:=Nz.mp z
   subst e
   refine⟨hC1,fr,Qm I3.lt,I3.Ik (Ni _),fun v e=>?_⟩
   have e':oC.data=.cell v:=e
   rw[hC2] at e';cases e'
 have loop:∀tk,codeAny (model X.prog X.w) X.A (.compLoop (.ListComp elt [⟨tg,iter,ifs,0⟩] scope pos) 0 (.ref it) (.ref acc) (compEnvC scope cl s3.heap.objs.size X.env))
   (compPost (model X.prog X.w) X.A X.xe use Q2 (.ref acc) s3.heap.objs.size) { s3 with heap:=h₁,toks:=tk }:=fun tk=>by
  refine uG (fun n s'=>∃i ys σ' H',Inv X' [] σ' H' s'/\iy tn'.length ix σ σ'/\tn i s'.heap/\(∀b∈fp,H' b=none)/\W i n ys H') (fun n s5 h5=>?_) m0
   ⟨0,[],p6 tn'.length ix σ,H3,I4 tk,⟨_,QR,rfl⟩,T.keep _ _ _ st3' fun b _ o q=>keep4 b o q,fpn,w0⟩
  obtain⟨i,ys,σ5,H5,I5,hσ,st5,fr5,w5⟩:=h5
  rcases turn i n ys H5 w5 with⟨stop,q⟩ | ⟨go,step⟩
  ·have d:=T.done X' hXp hXw hXK hXc i [] s5 σ5 H5 (fun _ _=>False) I5 (stat fr5) st5 stop
   rw[hXA] at d
   refine thn d fun r s6 ⟨hr,I6⟩=>?_
   subst hr
   exact fin I6 q
  ·have d:=T.item X' hXp hXw hXK hXc i [] s5 σ5 H5 (fun _ _=>False) I5 (stat fr5) st5 go
   rw[hXA] at d
   refine thn d fun r s6 ⟨u,hr,h6⟩=>?_
   subst hr
   refine thn h6 fun _ s7 ⟨z,H7,I7,r7,y7,st7,fr7⟩=>?_
   have I7':=I7.pinned (stat fr7) (T.obj _ _ st7)
   have again:∀{H9:Hp} {s9:Nk} {ys9:List V} {σ9:St},Inv X' ([]++i4 fp s7.heap) σ9 H9 s9->iy tn'.length ix σ σ9->(∃m',m'<n/\W (i+1) m' ys9 H9)->∃m',m'<n/\∃i ys σ' H',Inv X' [] σ' H' s9/\iy tn'.length ix σ σ'/\tn i s9.heap/\(∀b∈fp,H' b=none)/\W i m' ys H':=fun{H9 s9 ys9 σ9} I9 c9 ⟨m',hm,w9⟩=>by
    refine⟨m',hm,i+1,ys9,_,H9,I9.gK,c9,T.keep _ _ _ st7 fun b hb o e=>(I9.pin (b,o) (Nl _ (Nl _ (cR hb e)))).1,fun b hb=>?_,w9⟩
    obtain⟨o,e,_⟩:=T.obj _ _ st7 b hb
    exact(I9.pin (b,o) (Nl _ (Nl _ (cR hb e)))).2.1
   have ht':=ht cl s3.heap.objs.size s3 H3 fp
   have he':=he cl s3.heap.objs.size s3 H3 fp
   have hg':=hg cl s3.heap.objs.size s3 H3 fp
   rw[hX'] at ht' he' hg'
   rw[<- hXe]
   have a0:=hg' _ s7 σ5 H7 z u _ I7' r7 (step σ5 z H7 hσ y7)
   rw[hXp,hXw,hXA,hXx] at a0
   refine thn a0 fun _ s8 ⟨σ8,H8,I8,c8,q8⟩=>?_
   have a1:=ht' _ s8 _ H8 _ I8 q8
   rw[hXp,hXw,hXA,hXx] at a1
   refine thn a1 fun b s9 ⟨H9,I9,q9⟩=>?_
   cases b with
   | false=>exact again I9 c8 q9
   | true=>
    have a2:=he' _ s9 _ H9 _ I9 q9
    rw[hXp,hXw,hXA,hXx] at a2
    refine thn a2 fun yv s10 ⟨y,H10,I10,r10,q1,q2,q3⟩=>?_
    have a3:=lu (X:=X') _ s10 _ H10 (.ref acc) [y] (.ref acc) [yv] (fun _ Hq=>∃m',m'<n/\W (i+1) m' (ys++[y]) Hq) I10 rfl (.cons r10 .nil) ⟨acc,ys,y,rfl,rfl,q1,q2,q3⟩
    rw[hXp,hXw,hXA,hXx] at a3
    exact thn a3 fun _ s11 ⟨_,H11,I11,_,q11⟩=>again I11 c8 q11
 refine codeAny_compStart_list (loop _) ?_
 exact T.self _ 0 _ _ _ (T.keep _ _ _ st3' fun b _ o q=>keep4 b o q) (loop _)
section
variable {X:Cx}{elt iter tg:Expr}{tn':List Str}{tgr:TG}{ifs:List Expr}{scope osc:Rh}{pos:Pos}{wi:TI}{tt:TT}{te:TE}
theorem Ca (ix) (tn' N')
  (hxe:X.xe=fun _ _=>False) (hc:X.calm=true) (ho:X.env.scope=osc) (hN:N'=tn'++ix.map fun i=>(X.N[i]?).getD ("" : Str)) (hnd:N'.Nodup)
  (hall:(∀y∈scope.names,y.2=.free->osc.names.lookup y.1=some .cell)/\(∀y∈scope.names,y.2≠.cell)/\scope.kind=.function/\(∀y∈scope.names,y.2=.local->scope.names.lookup y.1=some .local)/\(∀y∈N'.drop tn'.length,scope.names.lookup y=some .free))
  (hi:PI X tg iter wi) (hg:∀cl C aD aK fp,PG (bG X scope cl C aD aK fp N') tg tgr)
  (ht:∀cl C aD aK fp,PTs (bG X scope cl C aD aK fp N') ifs tt)
  (he:∀cl C aD aK fp,PE (bG X scope cl C aD aK fp N') elt te)
  (hs:∀x,foldedSetIterable iter X.env x=pure x:=by intro _;rfl) :
  PE X (.ListComp elt [⟨tg,iter,ifs,0⟩] scope pos) (sY wi tn'.length ix tgr tt te):=by
 intro pins s σ H Q I h
 have e:eval (.ListComp elt [⟨tg,iter,ifs,0⟩] scope pos) X.env=comprehension (.ListComp elt [⟨tg,iter,ifs,0⟩] scope pos) scope X.env (firstIterPos [⟨tg,iter,ifs,0⟩] pos) (newList []) false (eval iter X.env) none:=by
  rfl
 refine qy ix N' hxe hc ho hN hnd hall hi hg ht he hs I h fun acc C H5 s5 o I5 cC hC pC hm q=>?_
 obtain⟨m,hm⟩:=hm
 exact⟨m,hm _ (I5.pin (C,o) (Nl _ (Nl _ (Nz.mpr rfl)))).1,fun h' hs'=>⟨.ref acc,H5,I5.FW cC hC pC hs',rfl,q⟩⟩
theorem vg {py spos:Pos} (ix) (tn' N')
  (hxe:X.xe=fun _ _=>False) (hc:X.calm=true) (ho:X.env.scope=osc) (hN:N'=tn'++ix.map fun i=>(X.N[i]?).getD ("" : Str)) (hnd:N'.Nodup)
  (hall:(∀y∈scope.names,y.2=.free->osc.names.lookup y.1=some .cell)/\(∀y∈scope.names,y.2≠.cell)/\scope.kind=.function/\(∀y∈scope.names,y.2=.local->scope.names.lookup y.1=some .local)/\(∀y∈N'.drop tn'.length,scope.names.lookup y=some .free))
  (hi:PI X tg iter wi) (hg:∀cl C aD aK fp,PG (bG X scope cl C aD aK fp N') tg tgr)
  (ht:∀cl C aD aK fp,PTs (bG X scope cl C aD aK fp N') ifs tt)
  (he:∀cl C aD aK fp,PE (bG X scope cl C aD aK fp N') elt te)
  (hNN:X.N.Nodup) (hy:X.N[i]?=some y) (hl:X.env.scope.names.lookup y=some .local)
  (hsw:swapsWith (.ListComp elt [⟨tg,iter,ifs,0⟩] scope pos) (some (.Name y py)) spos.line X.env=pure true:=by rfl)
  (hs:∀x,foldedSetIterable iter X.env x=pure x:=by intro _;rfl) :
  PS X (.Assign [.Name y py] (.ListComp elt [⟨tg,iter,ifs,0⟩] scope pos) spos) (CJ (sY wi tn'.length ix tgr tt te) (iz i)):=by
 intro pins s σ H D I h
 rw[exec_Assign_Name_used _ _ _ _ hsw]
 refine gV (Pk ?_)
 refine gV ?_
 refine gV (qy ix N' hxe hc ho hN hnd hall hi hg ht he hs I h fun acc C H5 s5 o I5 cC hC pC hm q=>?_)
 obtain⟨m,hm⟩:=hm
 refine RD (fP (v:=.ref acc) I5 hNN hy (.inl hl) rfl (fun s6 I6=>?_) (.inr hl))
 refine⟨m,hm _ (I6.pin (C,o) (Nl _ (Nl _ (Nz.mpr rfl)))).1,fun h' hs'=>?_⟩
 exact k5 (k5 ⟨_,H5,I6.FW cC hC pC hs',q⟩)
end
section
variable {κ:Type} [DecidableEq κ]
noncomputable def jQ (kvs:List (κ × V)) (k:κ):Option V:=(kvs.find? fun kv=>decide (kv.1=k)).map (·.2)
noncomputable def putK (kvs:List (κ × V)) (k:κ) (v:V):List (κ × V):=
 if (kvs.any fun kv=>decide (kv.1=k))=true then kvs.map (fun kv=>if kv.1=k then (kv.1,v) else kv) else kvs++[(k,v)]
theorem jV {p:κ × V}{r:List (κ × V)}{k:κ} (e:p.1=k):jQ (p::r) k=some p.2:=by simp[jQ,PY,e]
theorem jT {k:κ} (e:¬ p.1=k):jQ (p::r) k=jQ r k:=by simp[jQ,PY,e]
theorem uC (k:κ):∀kvs:List (κ × V),(kvs.any fun kv=>decide (kv.1=k))=(jQ kvs k).isSome
 | []=>rfl
 | p::r=>by
  rw[O6]
  by_cases e:p.1=k
  ·simp only[jV e,decide_eq_true e,Bool.true_or,Option.isSome_some]
  ·rw[jT e,decide_eq_false e,Bool.false_or];exact uC k r
theorem lS (kvs) (k:κ) (v):(putK kvs k v).length<=kvs.length+1:=by
 unfold putK
 grind
theorem kM.zw (r:kM o u):o.isSome=u.isSome:=by
 cases o with
 | none=>cases u with
  | none=>rfl
  | some _=>exact(show False from r).elim
 | some _=>cases u with
  | none=>exact(show False from r).elim
  | some _=>rfl
theorem kM.getD (r:kM o u) (rd:RelV d d'):RelV (o.getD d) (u.getD d'):=by
 cases o with
 | none=>cases u with
  | none=>exact rd
  | some _=>exact(show False from r).elim
 | some _=>cases u with
  | none=>exact(show False from r).elim
  | some _=>exact r
theorem KV.val (r:KV kvs vs) (k:κ):kM (jQ kvs k) (valueAt vs k):=by
 unfold KV at r
 induction r with
 | nil=>exact Qn
 | @cons p q ps qs h t ih=>
  obtain⟨h1,h2⟩:=h
  by_cases e:p.1=k
  ·have e':q.1=k:=h1.symm.trans e
   have b:valueAt (q::qs) k=some q.2:=by simp[valueAt,PY,e']
   rw[jV e,b];exact h2
  ·have e':¬ q.1=k:=fun z=>e (h1.trans z)
   have b:valueAt (q::qs) k=valueAt qs k:=by simp[valueAt,PY,e']
   rw[jT e,b];exact ih
theorem KV.any (r:KV kvs vs) (k:κ):(kvs.any fun kv=>decide (kv.1=k))=vs.any fun kv=>decide (kv.1=k):=by
 unfold KV at r
 induction r with
 | nil=>rfl
 | cons h t ih=>simp_all
theorem KV.zB (r:KV kvs vs) (k:κ) (ry:RelV y u) :
  KV (kvs.map fun kv=>if kv.1=k then (kv.1,y) else kv) (vs.map fun kv=>if kv.1=k then (kv.1,u) else kv):=by
 unfold KV at r ⊢
 induction r with
 | nil=>exact .nil
 | @cons p q ps qs h t ih=>
  rw[ND,ND]
  refine .cons ?_ ih
  grind
theorem KV.put (r:KV kvs vs) (k:κ) (ry:RelV y u):KV (putK kvs k y) (stored vs k u):=by
 unfold putK stored
 rw[r.any k]
 by_cases e:(vs.any fun kv=>decide (kv.1=k))=true
 ·rw[if_pos e,if_pos e];exact r.zB k ry
 ·rw[if_neg e,if_neg e];exact Paired.snoc r ⟨rfl,ry⟩
theorem KV.length {vs:List (κ × Ng)} (r:KV kvs vs):kvs.length=vs.length:=Paired.length r
end
theorem yk (r:RelV (kV k) u):(cw P w).is k u=true:=by
 cases k with
 | inl i=>obtain⟨t,e⟩:=(show ∃t,u=Pr i t from r);subst e;exact ve P w i t
 | inr x=>obtain⟨t,e⟩:=(show ∃t,u=SF x t from r);subst e;exact vQ P w x t
theorem rj {P:NC}{w:N4}:∀{ks:List Key}{us:List Ng},Vals (ks.map kV) us->ItemsAre (cw P w) ks us
 | [],_,r=>by rw[RS] at r;cases r;exact .nil
 | k::ks,_,r=>by
  rw[ND] at r
  cases r with
  | cons h t=>exact .cons (yk h) (rj t)
noncomputable abbrev KT (H:Hp):List (List Key × V)->List (List Key × Addr × Ng)->Prop:=Paired fun p q=>p.1=q.1/\H q.2.1=some (.tup (p.1.map kV))/\RelV p.2 q.2.2
theorem KT.val (r:KT H kvs xs) (k):kM (jQ kvs k) ((atKey xs k).map (·.2)):=by
 induction r with
 | nil=>exact Qn
 | @cons p q ps qs h t ih=>
  obtain⟨h1,_,h2⟩:=h
  by_cases e:p.1=k
  ·have e':q.1=k:=h1.symm.trans e
   have b:atKey (q::qs) k=some q.2:=by simp[atKey,PY,e']
   rw[jV e,b];exact h2
  ·have e':¬ q.1=k:=fun z=>e (h1.trans z)
   have b:atKey (q::qs) k=atKey qs k:=by simp[atKey,PY,e']
   rw[jT e,b];exact ih
theorem KT.zB {H:Hp}{kvs:List (List Key × V)}{xs:List (List Key × Addr × Ng)} (r:KT H kvs xs) (k:List Key){y:V}{u:Ng} (ry:RelV y u) :
  KT H (kvs.map fun kv=>if kv.1=k then (kv.1,y) else kv) (xs.map (putAt k u)):=by
 induction r with
 | nil=>exact .nil
 | @cons p q ps qs h t ih=>
  rw[ND,ND]
  refine .cons ?_ ih
  obtain⟨h1,h2,h3⟩:=h
  unfold putAt
  by_cases e:p.1=k
  ·rw[if_pos e,if_pos (h1.symm.trans e)];exact⟨h1,h2,ry⟩
  ·rw[if_neg e,if_neg (fun z=>e (h1.trans z))];exact⟨h1,h2,h3⟩
theorem KT.put (r:KT H kvs xs) (k) (hb:H b=some (.tup (k.map kV))) (ry:RelV y u) :
  KT H (putK kvs k y) (storedH xs k b u):=by
 have e:(kvs.any fun kv=>decide (kv.1=k))=(atKey xs k).isSome:=by
  rw[uC,(r.val k).zw,Option.isSome_map]
 unfold putK storedH
 rw[e]
 by_cases q:(atKey xs k).isSome=true
 ·rw[if_pos q,if_pos q];exact r.zB k ry
 ·rw[if_neg q,if_neg q];exact Paired.snoc r ⟨rfl,hb,ry⟩
theorem KT.keeps (r:KT H kvs xs) (ht:∀b ys,H b=some (.tup ys)->H' b=some (.tup ys)):KT H' kvs xs:=
 Paired.pO r fun _ _ z=>⟨z.1,ht _ _ z.2.1,z.2.2⟩
section
variable {P:NC}{w:N4}{H:Hp}{h:Heap}{a:Addr}
theorem EF (ok:HOk P w H h) (e:Rd H a u):bK P w H h a u:=e.ok ok
theorem tT (ok:HOk P w H h) (e:Rd H a (.dK kvs)):kvs.length<=sizeLine/\(a == sysModules)=false/\∃vs,KV kvs vs/\h.DictOf (cw P w) a vs:=
 show bK P w H h a (.dK kvs) from EF ok e
theorem Ks (ok:HOk P w H h) (e:H a=some (.dK kvs)):kvs.length<=sizeLine/\(a == sysModules)=false/\∃vs,KV kvs vs/\h.DictOf (cw P w) a vs:=tT ok (.inl e)
theorem rF (ok:HOk P w H h) (e:H a=some (.tup (ks.map kV))):(tupleKind (cw P w)).is h ks a:=by
 obtain⟨_,its,r,o,h1,⟨h2,n,h3⟩,_⟩:=(show bK P w H h a (.tup (ks.map kV)) from ok a _ e)
 exact⟨o,its.toArray,n,h1,h2,h3,by simpa using rj r⟩
theorem uN {kvs:List (List Key × V)} (ok:HOk P w H h) (e:Rd H a (.dT kvs)):kvs.length<=sizeLine/\(a == sysModules)=false ∧
  ∃xs,KT H kvs xs/\h.DictOfH (tupleKind (cw P w)) a xs:=by
 obtain⟨z,y,xs,r,o,es,ep,h1,h2,h3,h4,h5⟩:=(show bK P w H h a (.dT kvs) from EF ok e)
 refine⟨z,y,xs,r,o,es,ep,h1,h2,h3,h4,fun x hx=>?_,h5⟩
 have all:∀{l:List (List Key × V)} {m:List (List Key × Addr × Ng)},KT H l m->∀x∈m,(tupleKind (cw P w)).is h x.1 x.2.1:=by
  intro l m q
  induction q with
  | nil=>intro x hx;exact nomatch hx
  | @cons p q ps qs hq t ih=>
   intro x hx
   rcases Nx.mp hx with e | hx
   ·subst e
    exact rF ok (by rw[<- hq.1];exact hq.2.1)
   ·exact ih x hx
 exact all r x hx
theorem IG (ok:HOk P w H h) (e:H a=some (.dT kvs)):kvs.length<=sizeLine/\(a == sysModules)=false ∧
  ∃xs,KT H kvs xs/\h.DictOfH (tupleKind (cw P w)) a xs:=uN ok (.inl e)
end
noncomputable def sN (H:Hp) (a:Addr) (y:V) (r:Option V):Prop:=
 (∃kvs k,Rd H a (.dK kvs)/\y=kV k/\r=jQ kvs k)\/∃kvs k b,Rd H a (.dT kvs)/\y=.ref b/\H b=some (.tup (k.map kV))/\r=jQ kvs k
noncomputable def AE (H:Hp) (a:Addr) (y v:V) (H':Hp):Prop:=
 (∃kvs k,H a=some (.dK kvs)/\y=kV k/\kvs.length<sizeLine/\H'=upd H a (.dK (putK kvs k v))) ∨
 ∃kvs k b,H a=some (.dT kvs)/\y=.ref b/\H b=some (.tup (k.map kV))/\kvs.length<sizeLine/\H'=upd H a (.dT (putK kvs k v))
theorem sN.t {k:List Key} (e:H a=some (.dT kvs)) (eb:H b=some (.tup (k.map kV))):sN H a (.ref b) (jQ kvs k):=.inr ⟨kvs,k,b,.inl e,rfl,eb,rfl⟩
theorem AE.t {k:List Key} (e:H a=some (.dT kvs)) (eb:H b=some (.tup (k.map kV))) (hl:kvs.length<sizeLine) :
  AE H a (.ref b) v (upd H a (.dT (putK kvs k v))):=.inr ⟨kvs,k,b,e,rfl,eb,hl,rfl⟩
section
variable {X:Cx}{pins:List (Addr × Obj)}{σ:St}{H:Hp}{s:Nk}{a:Addr}{y v:V}{u r:Ng}{o:Option V}{A:N1}{E:Ng->Nk->Prop}
theorem Inv.big (I:Inv X pins σ H s):sysModules<s.heap.objs.size:=by
 have h:mainGlobals<s.heap.objs.size:=(I.mod.glob.keeps I.bk).lt
 exact Rv (by decide) h
theorem Ae (hu:A.units+1<cLine) (I:Inv X pins σ H s) (g:sN H a y (some v)) (ry:RelV y u) (h:∀w' s',Inv X pins σ H s'->RelV v w'->Q w' s') :
  wpAny (model X.prog X.w) A (getItem (.ref a) u) Q E s:=by
 rcases g with⟨kvs,k,e,ey,l⟩ | ⟨kvs,k,b,e,ey,eb,l⟩
 ·subst ey
  obtain⟨z,hd,vs,rel,dd⟩:=tT I.hok e
  obtain⟨w',hw,rw'⟩:=kM.some_of (v:=v) (o:=valueAt vs k) (by rw[l];exact rel.val k)
  exact wpAny_getItem_of (yk ry) dd.mapOf hw (h w' _ (I.tok _) rw')
 ·subst ey
  cases (show u=Oj b from ry)
  obtain⟨z,hd,xs,rel,dd⟩:=uN I.hok e
  obtain⟨w',hw,rw'⟩:=kM.some_of (v:=v) (o:=(atKey xs k).map (·.2)) (by rw[l];exact rel.val k)
  obtain⟨p,hp,hp2⟩:=Pe.mp hw
  refine wpAny_getItem_heap (Rw hu) (rF I.hok eb) dd hp ?_
  rw[hp2]
  exact h w' _ (I.tok _) rw'
theorem x9 (I:Inv X pins σ H s) (mu:Mut (H a)) (hs:PF a s.heap h') (he:∃q,h'.get? a=some q) (new:bK X.prog X.w (upd H a ob) h' a ob) :
  Inv X pins σ (upd H a ob) { s with heap:=h',toks:=t' }:=
 I.write (x:=a) (e:=a) mu (.inl rfl) (fun b q hb z=>(hs.2 b hb).trans z) he new
theorem HK (z:kvs.length<=sizeLine) (hd:(a == sysModules)=false) (rel:KV kvs vs) (dd:h'.DictOf (cw P w) a vs) :
  bK P w H' h' a (.dK kvs):=⟨z,hd,vs,rel,dd⟩
theorem Ab {H':Hp}{Q:Unit->Nk->Prop} (hu:A.units+1<cLine) (I:Inv X pins σ H s) (g:AE H a y v H') (ry:RelV y u) (rv:RelV v r) (h:∀s',Inv X pins σ H' s'->Q () s') :
  wpAny (model X.prog X.w) A (setItem (.ref a) u r) Q E s:=by
 rcases g with⟨kvs,k,e,ey,l,eH⟩ | ⟨kvs,k,b,e,ey,eb,l,eH⟩
 ·subst ey eH
  obtain⟨z,hd,vs,rel,dd⟩:=Ks I.hok e
  have hz:vs.length<=sizeLine:=by rw[<- rel.length];exact z
  have hl:(putK kvs k v).length<=sizeLine:=by have:=lS kvs k v;lia
  refine wpAny_setItem_pairs (hsz:=hz) (yk ry) dd fun h' dd' hs=>h _ ?_
  have he:∃q,h'.get? a=some q:=let ⟨q,_,_,hq,_⟩:=dd';⟨q,hq⟩
  exact x9 I (by rw[e];exact Qn) hs he (HK hl hd (rel.put k rv) dd')
 ·subst ey eH
  cases (show u=Oj b from ry)
  obtain⟨z,hd,xs,rel,dd⟩:=IG I.hok e
  have hz:xs.length<=sizeLine:=by rw[<- Paired.length rel];exact z
  have hl:(putK kvs k v).length<=sizeLine:=by have:=lS kvs k v;lia
  refine wpAny_setItem_heap (hsz:=hz) (Rw hu) (rF I.hok eb) dd fun h' dd' hs=>h _ ?_
  obtain⟨q,es,ep,hq,h2,h3,h4,_,h5⟩:=dd'
  refine x9 I (by rw[e];exact Qn) hs ⟨q,hq⟩ ⟨hl,hd,_,(rel.put k eb rv).keeps fun c ys ec=>?_,q,es,ep,hq,h2,h3,h4,h5⟩
  rw[aQ (IQ ec e (fun z=>nomatch z))]
  exact ec
end
noncomputable def FA (i:Expr):Prop:=∀ov iv,subscripted i false ov iv=operate [ov,iv] (getItem ov iv)
theorem Eg {T id:String}
  (hl:typeLookup (.type T) "__getitem__" = pure (some (.builtin id))) (hs:FA slice)
  (h:wpAny (model prog w) A (eval value env) (fun o s₁=>wpAny (model prog w) A (eval slice env) (fun i s₂=>s₂.TypeIs o T/\wpAny (model prog w) A (getItem o i) Q E s₂) E s₁) E s) :
  wpAny (model prog w) A (eval (.Subscript value slice pos) env) Q E s:=by
 refine SR (Ov h (fun o s₁ h₁=>Ov h₁ (fun i s₂ h₂=>?_) fun _ _ x=>x) fun _ _ x=>x)
 obtain⟨hT,h₂⟩:=h₂
 unfold subscriptTail
 refine gV ?_
 rw[getitemInPython_of_ne hT.not_modules]
 refine gV (wpAny_specialOf hT hl ?_)
 have fin:wpAny (model prog w) A (subscripted slice false o i) (fun r s₃=>wpAny (model prog w) A (letTemporaryGo value o r >>= fun _=>pure r) Q E s₃) E s₂:=by
  rw[hs o i]
  exact wpAny_operating (Ov h₂ (fun r s₃ h₃=>gV (wpAny_letTemporaryGo (k5 h₃))) fun _ _ x=>x)
 first
  | exact k5 (gV fin)
  | exact gV (k5 (gV fin))
  | exact gV fin
theorem uO {σ:St} (I:Inv X pins σ H s) (g:sN H a y o):s.TypeIs (.ref a) "dict" := by
 rcases g with⟨kvs,k,e,_,_⟩ | ⟨kvs,k,b,e,_,_,_⟩
 ·obtain⟨_,_,vs,_,dd⟩:=tT I.hok e
  exact dd.typeIs
 ·obtain⟨_,_,xs,_,dd⟩:=uN I.hok e
  exact dd.typeIs
noncomputable def Kb (td ty:TE):TE:=fun σ H Q=>td σ H fun x H1=>ty σ H1 fun y H2=>∃a v,x=.ref a/\sN H2 a y (some v)/\Q v H2
noncomputable def KC (td ty tv:TE):TS:=fun D σ H=>tv σ H fun v H1=>td σ H1 fun x H2=>ty σ H2 fun y H3=>∃a H4,x=.ref a/\AE H3 a y v H4/\D.nx σ H4
section
variable {X:Cx}{o i e value:Expr}{pos pos' tpos:Pos}{td ty tv:TE}
theorem EC (hu:X.A.units+1<cLine) (ho:PE X o td) (hi:PE X i ty) (hs:FA i):PE X (.Subscript o i pos) (Kb td ty):=by
 intro pins s σ H Q I h
 refine Eg PySem.F.slot_dict_getitem.lookup hs (thn (ho pins s σ H _ I h) fun u s1 ⟨x,H1,I1,rx,q1⟩=>thn (hi pins s1 σ H1 _ I1 q1) fun iv s2 ⟨y,H2,I2,ry,a,v,ex,g,q2⟩=>?_)
 subst ex
 obtain rfl:u=Oj a:=rx
 exact⟨uO I2 g,Ae hu I2 g ry fun w' s3 I3 rw'=>⟨v,H2,I3,rw',q2⟩⟩
theorem Ew (hu:X.A.units+1<cLine) (ho:PE X o td) (hi:PE X i ty) (hv:PE X value tv) (hs:swapsWith value (some (.Subscript o i pos')) pos.line X.env=pure false) :
  PS X (.Assign [.Subscript o i pos'] value pos) (KC td ty tv):=by
 intro pins s σ H D I h
 refine wpAny_Assign_Subscript (thn (hv pins s σ H _ I h) fun r s1 ⟨v,H1,I1,rv,q1⟩=>thn (ho pins s1 σ H1 _ I1 q1) fun u s2 ⟨x,H2,I2,rx,q2⟩=>thn (hi pins s2 σ H2 _ I2 q2) fun iv s3 ⟨y,H3,I3,ry,a,H4,ex,g,q3⟩=>?_) hs
 subst ex
 obtain rfl:u=Oj a:=rx
 exact Ab hu I3 g ry rv fun s4 I4=>⟨σ,H4,I4,q3⟩
end
theorem Ax (h:Heap) (hb:sysModules<h.objs.size):bK P w H (h.push { cls:=.type "dict", data:=.dict #[] }) h.objs.size (.dT []):=
 ⟨Ox _,beq_eq_false_iff_ne.mpr (Sd (NA hb)),[],.nil,_,#[],0,Nm _ rfl,⟨rfl,rfl,rfl⟩,rfl,rfl,List.nodup_nil⟩
noncomputable def GD:TE:=fun _ H Q=>∀p,H p=none->Q (.ref p) (upd H p (.dT []))
section
variable {X:Cx}{pos:Pos}
theorem Av:PE X (.Dict [] [] pos) GD:=fun pins s σ H Q I h=>
 wpAny_Dict_empty ⟨.ref s.heap.objs.size,_,I.laid (a:=s.heap.objs.size) (o:=.dT []) (t':=s.toks) (fun _ _ q=>k3 _ q) (Ni _) (Ax s.heap I.big),rfl,h _ (I.hok.fresh (Ni _))⟩
end
structure M2 (X:Cx) (o) (m) (apos:Pos) (e f) (cpos):Prop where
 base:attributeBase o m X.env (eval o X.env)=eval o X.env
 few:((backTo cpos (starEach [e,f] X.env)).all (fun x=>!x.1)&&(backToKw cpos (keywordEach [] X.env)).all (fun x=>x.1.isSome)
  && decide (([e,f]:List Expr).length+([]:List Sf).length+(if ([]:List Sf).isEmpty then 0 else 1)<30))=true
 line:(apos.endLine == cpos.line)=true
 trees:backTo cpos (starEach [e,f] X.env)=[(false,eval e X.env),(false,eval f X.env)]
noncomputable def IsD (H:Hp) (a:Addr):Prop:=(∃kvs,Rd H a (.dK kvs))\/∃kvs,Rd H a (.dT kvs)
theorem FX {σ:St} (I:Inv X pins σ H s) (d:IsD H a) :
  s.TypeIs (.ref a) "dict" /\ (∀b,Oj a=.ref b->∃ob,s.heap.get? b=some ob/\ob.dict=none)/\(a == sysModules)=false:=by
 rcases d with⟨kvs,e⟩ | ⟨kvs,e⟩
 ·obtain⟨_,hd,vs,_,dd⟩:=tT I.hok e
  refine⟨dd.typeIs,fun b q=>?_,hd⟩
  cases q
  obtain⟨ob,_,_,h1,h2,_⟩:=dd
  exact⟨ob,h1,h2.2.1⟩
 ·obtain⟨_,hd,xs,_,dd⟩:=uN I.hok e
  refine⟨dd.typeIs,fun b q=>?_,hd⟩
  cases q
  obtain⟨ob,_,_,h1,h2,_⟩:=dd
  exact⟨ob,h1,h2.2.1⟩
section
variable {X:Cx}{pins:List (Addr × Obj)}{σ:St}{H:Hp}{s:Nk}{a:Addr}{y d:V}{u r:Ng}{o:Option V}{A:N1}{E:Ng->Nk->Prop}
theorem GV (hu:A.units+1<cLine) (I:Inv X pins σ H s) (g:sN H a y o) (ry:RelV y u) (rd:RelV d r) (h:∀w' s',Inv X pins σ H s'->RelV (o.getD d) w'->Q w' s') :
  wpAny (model X.prog X.w) A (call (.builtin "dict.get") [.ref a,u,r]) Q E s:=by
 rcases g with⟨kvs,k,e,ey,l⟩ | ⟨kvs,k,b,e,ey,eb,l⟩
 ·subst ey
  obtain⟨z,hd,vs,rel,dd⟩:=tT I.hok e
  refine call_meetsIn QT dd.typeIs PySem.F.entry_dict_get (PySem.F.args_dict_get_3 _ _ _) (meets_dict_get_default (cw X.prog X.w) a (yk ry) hd r) ⟨_,dd.mapOf,h _ _ (I.tok _) ?_⟩
  rw[l]
  exact(rel.val k).getD rd
 ·subst ey
  cases (show u=Oj b from ry)
  obtain⟨z,hd,xs,rel,dd⟩:=uN I.hok e
  refine call_meetsIn QT dd.typeIs PySem.F.entry_dict_get (PySem.F.args_dict_get_3 _ _ _) (meetsH_dict_get_default (tupleKind (cw X.prog X.w)) a b hd r) ⟨Rw hu,k,xs,rF I.hok eb,dd,h _ _ (I.tok _) ?_⟩
  rw[l]
  exact(rel.val k).getD rd
end
noncomputable def GF (td ty tx:TE):TE:=fun σ H Q=>td σ H fun x H1=>∃a,x=.ref a/\IsD H1 a/\ty σ H1 fun y H2=>tx σ H2 fun z H3=>∃o,sN H3 a y o/\Q (o.getD z) H3
section
variable {X:Cx}{o e f:Expr}{apos cpos:Pos}{td ty tx:TE}
theorem BV (hu:X.A.units+1<cLine) (ho:PE X o td) (he:PE X e ty) (hf:PE X f tx) (m:M2 X o "get" apos e f cpos):PE X (.Call (.Attribute o "get" apos) [e,f] [] cpos) (GF td ty tx):=by
 intro pins s σ H Q I h
 refine wpAny_Call_method m.base m.few m.line PySem.F.plainAttrs_dict QT PySem.F.type_dict_get (thn (ho pins s σ H _ I h) fun u s1 ⟨x,H1,I1,rx,a,ex,d,q1⟩=>?_)
 subst ex
 obtain rfl:u=Oj a:=rx
 obtain⟨t1,t2,_⟩:=FX I1 d
 refine⟨t1,t2,?_⟩
 rw[m.trees]
 refine Calls.callWith_builtin rfl (Calls.evalArgs_plain (PM (thn (he pins s1 σ H1 _ I1 q1) fun iv s2 ⟨y,H2,I2,ry,q2⟩=>
  PM (thn (hf pins s2 σ H2 _ I2 q2) fun fv s3 ⟨z,H3,I3,rz,ov,g,q3⟩=>RF ?_))))
 exact GV hu I3 g ry rz fun w' s4 I4 rw'=>⟨_,H3,I4,rw',q3⟩
end
end L2
namespace L2.FE
open PySem PySem.Spec PyProof.Rows
inductive D where
 | non | bl (b:Bool) | int (i:Int) | str (x:Str) | tup (ds:List D) | frl (ds:List D) | ref (n:Nat) | fn (x:Str) | edic | scr (ds:List D) | exc (c:Str) (fs:List (Str × Int)) | clo (f:Str) (ds:List D)
inductive O where
 | lst (ds:List D) | set (ns:List Int) | dic (kvs:List (Key × D)) | dit (kvs:List (List Key × D))
noncomputable abbrev Hh:=List O
noncomputable abbrev En:=List (Option D)
structure Xc where
 cls:Str
 fs:List (Str × Int)
inductive R (β:Type) where
 | ok (b:β) (h:Hh)
 | err (x:Xc) (h:Hh)
 | bad
noncomputable def R.bind (r:R β) (f:β->Hh->R γ):R γ:=match r with
 | .ok b h=>f b h
 | .err x h=>.err x h
 | .bad=>.bad
inductive Fl where
 | nx (e:En) | bk (e:En) | ct (e:En) | rt (d:D)
noncomputable abbrev ME:=En->Hh->R D
noncomputable abbrev MT:=En->Hh->R Bool
noncomputable abbrev MA:=En->Hh->R (List D)
noncomputable abbrev MS:=En->Hh->R Fl
noncomputable def Fro (K:ab) (H:Hp) (p:Addr) (vs:List V):Prop:=
 (∃o,H p=some (.frz o (.lst vs)))\/∃o its n,K.lookup p=some o/\o.cls=.type "list" /\ o.dict=none/\o.data=.seq its n/\its.size<=sizeLine/\Vals vs its.toList
theorem Fro.sq {K:ab} (h:Fro K H p vs):SqL K H p vs:=by
 rcases h with⟨o,h⟩ | h
 ·exact .inl (.inr ⟨o,h⟩)
 ·exact .inr h
noncomputable def Fr1 (H:Hp) (p:Addr) (vs:List V):Prop:=∃o,H p=some (.frz o (.lst vs))
theorem Fr1.fro {K:ab} (h:Fr1 H p vs):Fro K H p vs:=.inl h
theorem Fr1.sq {K:ab}{H:Hp}{p:Addr}{vs:List V} (h:Fr1 H p vs):SqL K H p vs:=let ⟨o,h⟩:=h;.inl (.inr ⟨o,h⟩)
theorem Fr1.rd (h:Fr1 H p vs):Rd H p (.lst vs):=.inr h
noncomputable def AtO (p:Addr) (o:Obj):HO:=.frz o (.ext fun h=>h.get? p=some o)
noncomputable def XFs (H:Hp) (dc:Option Addr) (fs:List (Str × Int)):Prop:=(dc=none/\fs=[])\/∃dx od,dc=some dx/\H dx=some (.frz od (.xd (fs.map fun x=>(x.1,V.int x.2))))
noncomputable def kB (H:Hp) (clos:List (Str × Addr)):List Str->List V->Prop:=Paired fun y v=>∃c o u,clos.lookup y=some c/\H c=some (AtO c o)/\o.data=.cell (some u)/\RelV v u
structure vz (f x qual) (ys) (params) (body:Expr) (scope:Rh):Prop where
 tx:∃(p0 p2 p3:Pos) (qs:List (Str × Pos)),qs.map (·.1)=ys/\body=.Call (.Name f p0) (qs.map (fun y=>Td y.1 y.2)++[.Name x p2]) [] p3
 kind:scope.kind=.function
 co:scope.isCoroutine=false
 gen:scope.isGenerator=false
 Gq:∀z∈scope.names,z.2≠.cell
 glob:scope.names.lookup f=some .globalImplicit
 loc:scope.names.lookup x=some .local
 free:∀y∈ys,scope.names.lookup y=some .free/\(y == ("__debug__" : Str))=false/\(y == ("__classdict__" : Str))=false
 nd:(f == ("__debug__" : Str))=false/\(x == ("__debug__" : Str))=false
 bind:∀clos pm cdv ctv u,bindArgs (PySem.W.kla_fn "<lambda>" qual params body scope clos pm cdv ctv) ⟨[u],[]⟩=pure [(x,u)]
noncomputable def EL (f:Str) (clos:List (Str × Addr)) (ys:List Str) (o:Obj) (c':Addr) (qual:Str):Prop:=
 ∃params body scope pm ctv x,o=OZ "<lambda>" qual params body scope clos pm c' ctv/\vz f x qual ys params body scope
mutual
inductive aL (K) (g) (α) (H):D->V->Prop where
 | non:aL K g α H .non .non
 | bl (b):aL K g α H (.bl b) (.bl b)
 | int (i):aL K g α H (.int i) (.int i)
 | str (x):aL K g α H (.str x) (.str x)
 | ref:α[n]?=some p->aL K g α H (.ref n) (.ref p)
 | tup {ds p vs}:H p=some (.tup vs)->au K g α H ds vs->aL K g α H (.tup ds) (.ref p)
 | frl {ds p vs}:Fr1 H p vs->au K g α H ds vs->aL K g α H (.frl ds) (.ref p)
 | scr {ds p vs}:Fro K H p vs->au K g α H ds vs->aL K g α H (.scr ds) (.ref p)
 | fn:g x=some f->aL K g α H (.fn x) (.ref f)
 | edic:H p=some (.frz o (.dK []))->aL K g α H .edic (.ref p)
 | exc:g c=some C->H p=some (AtO p o)->o.cls=.ref C->(∃vs,o.data=.fields vs)->XFs H o.dict fs->aL K g α H (.exc c fs) (.ref p)
 | clo {f ds p o clos ys vs c' oc qual t vc}:H p=some (AtO p o)->EL f clos ys o c' qual->H c'=some (AtO c' oc)->oc.data=.fields vc->vc[1]?=some (.str qual t)->kB H clos ys vs->au K g α H ds vs->aL K g α H (.clo f ds) (.ref p)
inductive au (K) (g:Str->Option Addr) (α:List Addr) (H:Hp):List D->List V->Prop where
 | nil:au K g α H [] []
 | cons:aL K g α H d v->au K g α H ds vs->au K g α H (d::ds) (v::vs)
end
structure Ex0 (K:ab) (α) (H:Hp) (α':List Addr) (H':Hp):Prop where
 pre:α <+: α'
 tup:∀p xs , H p=some (.tup xs)->H' p=some (.tup xs)
 frz:∀p o u , H p=some (.frz o u)->H' p=some (.frz o u)
 tbl:∀p ps , H p=some (.tbl ps)->∃more,H' p=some (.tbl (ps++more))
theorem Ex0.fro {K:ab} (e:Ex0 K α H α' H') (p) (xs) (h:Fro K H p xs):Fro K H' p xs:=by
 rcases h with⟨o,h⟩ | h
 ·exact .inl ⟨o,e.frz _ _ _ h⟩
 ·exact .inr h
theorem Ex0.fr1 {K:ab} (e:Ex0 K α H α' H') (p) (xs) (h:Fr1 H p xs):Fr1 H' p xs:=let ⟨o,h⟩:=h;⟨o,e.frz _ _ _ h⟩
structure Ext (K) (α) (H) (α') (H'):Prop extends Ex0 K α H α' H' where
 kept:∀p o,H p=some o->p∉α->(∀ps,o≠.tbl ps)->H' p=some o
 new:∀p,p∈α'->p∉α->H p=none
section
variable {K:ab}{g:Str->Option Addr}{α α' α'':List Addr}{H H' H'':Hp}
theorem Ext.keep (e:Ext K α H α' H') (p) (o) (h:H p=some o) (n:p∉α) (t:∀ps,o≠.tbl ps:=by intro _ z;cases z):H' p=some o:=e.kept p o h n t
theorem Ext.stays (e:Ext K α H α' H'){p:Addr}{o:HO} (h:H p=some o) (n:p∉α):H' p≠none:=by
 cases o with
 | tbl ps=>obtain⟨m,q⟩:=e.tbl p ps h;simp_all
 | _=>rw[e.keep p _ h n];simp
theorem Ex0.refl:Ex0 K α H α H:=⟨Qg _,fun _ _ h=>h,fun _ _ _ h=>h,fun _ ps h=>⟨#[],by grind⟩⟩
theorem Ex0.trans (a:Ex0 K α H α' H') (b:Ex0 K α' H' α'' H''):Ex0 K α H α'' H'':=⟨a.pre.trans b.pre,fun p xs h=>b.tup p xs (a.tup p xs h),fun p o u h=>b.frz p o u (a.frz p o u h),fun p ps h=>by
  obtain⟨m1,e1⟩:=a.tbl p ps h
  obtain⟨m2,e2⟩:=b.tbl p _ e1
  grind⟩
theorem Ext.refl:Ext K α H α H:=⟨.refl,fun _ _ h _ _=>h,fun _ h n=>absurd h n⟩
theorem Ext.trans (a:Ext K α H α' H') (b:Ext K α' H' α'' H''):Ext K α H α'' H'':=⟨a.toEx0.trans b.toEx0,fun p o h n t=>b.kept p o (a.kept p o h n t) (fun z=>by rw[a.new p z n] at h;cases h) t,fun p z n=>by
  by_cases q:p∈α'
  ·exact a.new p q n
  ·have:=b.new p z q
   cases e:H p with
   | none=>rfl
   | some o=>exact absurd this (a.stays e n)⟩
theorem Ex0.get (e:Ex0 K α H α' H'){n:Nat}{p:Addr} (h:α[n]?=some p):α'[n]?=some p:=by
 obtain⟨t,rfl⟩:=e.pre
 have hl:n<α.length:=by
  by_cases hl:n<α.length
  ·exact hl
  ·rw[OJ (by lia)] at h;cases h
 rw[Nq hl];exact h
mutual
theorem aL.ex0 (e:Ex0 K α H α' H'):∀{d:D}{v:V},aL K g α H d v->aL K g α' H' d v
 | _,_,.non=>.non
 | _,_,.bl b=>.bl b
 | _,_,.int i=>.int i
 | _,_,.str x=>.str x
 | _,_,.ref h=>.ref (e.get h)
 | _,_,.tup h r=>.tup (e.tup _ _ h) (au.ex0 e r)
 | _,_,.frl h r=>.frl (e.fr1 _ _ h) (au.ex0 e r)
 | _,_,.scr h r=>.scr (e.fro _ _ h) (au.ex0 e r)
 | _,_,.fn h=>.fn h
 | _,_,.edic h=>.edic (e.frz _ _ _ h)
 | _,_,.exc hg h hc hd hf=>.exc hg (e.frz _ _ _ h) hc hd (hf.elim .inl fun⟨dx,od,a,b⟩=>.inr ⟨dx,od,a,e.frz _ _ _ b⟩)
 | _,_,.clo h l hc hd hv cs r=>.clo (e.frz _ _ _ h) l (e.frz _ _ _ hc) hd hv (L2.Paired.pO cs fun _ _ ⟨c,o,u,l,a,b⟩=>⟨c,o,u,l,e.frz _ _ _ a,b⟩) (au.ex0 e r)
theorem au.ex0 (e:Ex0 K α H α' H'):∀{ds:List D}{vs:List V},au K g α H ds vs->au K g α' H' ds vs
 | _,_,.nil=>.nil
 | _,_,.cons r t=>.cons (aL.ex0 e r) (au.ex0 e t)
end
theorem aL.ext (e:Ext K α H α' H') (r:aL K g α H d v):aL K g α' H' d v:=r.ex0 e.toEx0
theorem au.ext (e:Ext K α H α' H') (r:au K g α H d v):au K g α' H' d v:=r.ex0 e.toEx0
theorem au.length:∀{ds:List D}{vs:List V},au K g α H ds vs->ds.length=vs.length
 | _,_,.nil=>rfl
 | _,_,.cons _ t=>by simp[au.length t]
theorem au.append:∀{ds es:List D}{vs us:List V},au K g α H ds vs->au K g α H es us->au K g α H (ds++es) (vs++us)
 | _,_,_,_,.nil,s=>s
 | _,_,_,_,.cons r t,s=>.cons r (au.append t s)
theorem au.get:∀{ds:List D}{vs:List V}{i:Nat}{d:D},au K g α H ds vs->ds[i]?=some d->∃v,vs[i]?=some v/\aL K g α H d v
 | _,_,_,_,.nil,e=>by simp at e
 | _,_,0,_,.cons r _,e=>by simp_all
 | _,_,i+1,d,.cons _ t,e=>by
  obtain⟨u,h1,h2⟩:=au.get t (by simpa using e)
  simp_all
theorem au.set {d:D}{v:V} (r:aL K g α H d v):∀{ds:List D}{vs:List V} (i:Nat),au K g α H ds vs->au K g α H (ds.set i d) (vs.set i v)
 | _,_,_,.nil=>.nil
 | _,_,0,.cons _ t=>.cons r t
 | _,_,i+1,.cons q t=>.cons q (au.set r i t)
theorem au.take:∀{ds:List D}{vs:List V} (n:Nat),au K g α H ds vs->au K g α H (ds.take n) (vs.take n)
 | _,_,0,_=>.nil
 | _,_,_+1,.nil=>.nil
 | _,_,n+1,.cons r t=>.cons r (au.take n t)
theorem au.drop:∀{ds:List D}{vs:List V} n , au K g α H ds vs->au K g α H (ds.drop n) (vs.drop n)
 | _,_,0,r=>r
 | _,_,_+1,.nil=>.nil
 | _,_,n+1,.cons _ t=>au.drop n t
theorem au.erase:∀{ds:List D}{vs:List V} i , au K g α H ds vs->au K g α H (ds.eraseIdx i) (vs.eraseIdx i)
 | _,_,_,.nil=>.nil
 | _,_,0,.cons _ t=>t
 | _,_,i+1,.cons q t=>.cons q (au.erase i t)
theorem au.ints (ns:List Int):au K g α H (ns.map D.int) (ns.map V.int):=by
 induction ns with
 | nil=>exact .nil
 | cons n r ih=>exact .cons (.int n) ih
theorem au.vM:∀{ns:List Int}{vs:List V},au K g α H (ns.map D.int) vs->vs=ns.map V.int
 | [],_,.nil=>rfl
 | n::r,_,.cons (.int _) t=>by rw[au.vM t];rfl
theorem au.flat {ds:List D}{vs:List V} (r:au K g α H ds vs):∀k,au K g α H (NS k ds).flatten (NS k vs).flatten
 | 0=>.nil
 | k+1=>by rw[Qi];exact r.append (au.flat r k)
end
noncomputable def OAt (K:ab) (g:Str->Option Addr) (α:List Addr) (H:Hp) (p:Addr):O->Prop
 | .lst ds=>∃vs,H p=some (.lst vs)/\au K g α H ds vs
 | .set ns=>H p=some (.set (fun k=>ns.any (· == k)) ns.length)
 | .dic kvs=>∃kws,H p=some (.dK kws)/\Paired (fun(a:Key × D) (b:Key × V)=>a.1=b.1/\aL K g α H a.2 b.2) kvs kws
 | .dit kvs=>∃kws,H p=some (.dT kws)/\Paired (fun(a:List Key × D) (b:List Key × V)=>a.1=b.1/\aL K g α H a.2 b.2) kvs kws
noncomputable def uP (H:Hp) (q:Addr × Pos × Str):Prop:=H q.1=some (.tbl #[])\/∃c' oc vc t,H q.1=some (.tbl #[rawInt q.2.1.line,rawInt q.2.1.col,.ref c'])/\H c'=some (AtO c' oc)/\oc.data=.fields vc/\vc[1]?=some (.str q.2.2 t)
noncomputable def CW (fd:Qr):Option Pos:=match fd.body with
 | .stmts b=>(match b.getLast? with
  | some (.Return (some (.Lambda _ _ _ pos)) _)=>some pos
  | some (.Return (some (.Call _ es _ _)) _)=>(match es.getLast? with | some (.Lambda _ _ _ pos)=>some pos | _=>none)
  | _=>none)
 | _=>none
noncomputable def ki (K:ab) (f:Addr):Option (Addr × Pos × Str):=match K.lookup f with
 | some ⟨_,_,.func fd,_⟩=>(match CW fd,fd.code with
  | some pos,.ref c=>(match K.lookup c with
   | some ⟨_,_,.fields vs,_⟩=>(match (vs[11]?:Option Ng) with | some (.ref P)=>some (P,pos,fd.qualname++".<locals>." ++ "<lambda>") | _=>none)
   | _=>none)
  | _,_=>none)
 | _=>none
noncomputable def iJ (K:ab) (H:Hp):Prop:=∀f P,ki K f=some P->uP H P
structure aV (K) (g) (α:List Addr) (H) (h:Hh):Prop where
 len:α.length=h.length
 inj:∀(n m:Nat) p , α[n]?=some p->α[m]?=some p->n=m
 here:∀(n:Nat) p o , α[n]?=some p->h[n]?=some o->OAt K g α H p o
 tab:iJ K H
section
variable {K:ab}{g:Str->Option Addr}{α α':List Addr}{H H':Hp}{h:Hh}
theorem Paired.Iz (e:Ex0 K α H α' H') (r:Paired (fun(a:Key × D) (b:Key × V)=>a.1=b.1/\aL K g α H a.2 b.2) kvs kws) :
  Paired (fun(a:Key × D) (b:Key × V)=>a.1=b.1/\aL K g α' H' a.2 b.2) kvs kws:=L2.Paired.pO r fun _ _ q=>⟨q.1,q.2.ex0 e⟩
theorem Paired.JN (e:Ex0 K α H α' H') (r:Paired (fun(a:List Key × D) (b:List Key × V)=>a.1=b.1/\aL K g α H a.2 b.2) kvs kws) :
  Paired (fun(a:List Key × D) (b:List Key × V)=>a.1=b.1/\aL K g α' H' a.2 b.2) kvs kws:=L2.Paired.pO r fun _ _ q=>⟨q.1,q.2.ex0 e⟩
theorem uP.mono (t:uP H P) (a:∀b ps,H b=some (.tbl ps)->H' b=some (.tbl ps)) (z:∀b o u,H b=some (.frz o u)->H' b=some (.frz o u)):uP H' P:=by
 rcases t with h | ⟨c',oc,vc,tk,h,hc,hd⟩
 ·exact .inl (a _ _ h)
 ·exact .inr ⟨c',oc,vc,tk,a _ _ h,z _ _ _ hc,hd⟩
theorem iJ.mono (t:iJ K H) (a:∀b ps,H b=some (.tbl ps)->H' b=some (.tbl ps)) (z:∀b o u,H b=some (.frz o u)->H' b=some (.frz o u)):iJ K H':=fun f P e=>(t f P e).mono a z
theorem iJ.upd (t:iJ K H) (n:H p=none\/∃u,H p=some u/\(∀ys,u≠.tup ys)/\(∀w ys,u≠.frz w ys)/\∀ps,u≠.tbl ps):iJ K (upd H p o):=by
 have ne:∀q u,H q=some u->((∃w ys,u=.frz w ys)\/∃ps,u=.tbl ps)->q≠p:=by
  grind
 intro f P e
 rcases t f P e with h | ⟨c',oc,vc,tk,h,hc,hd⟩
 ·exact .inl (by rw[aQ (ne _ _ h (.inr ⟨_,rfl⟩))];exact h)
 ·exact .inr ⟨c',oc,vc,tk,by rw[aQ (ne _ _ h (.inr ⟨_,rfl⟩))];exact h,by rw[aQ (ne _ _ hc (.inl ⟨_,_,rfl⟩))];exact hc,hd⟩
theorem OAt.isS {p:Addr}{o:O} (h:OAt K g α H p o):∃u,H p=some u/\(∀ys,u≠.tup ys)/\(∀w ys,u≠.frz w ys)/\∀ps,u≠.tbl ps:=by
 cases o with
 | lst ds=>obtain⟨vs,e,_⟩:=h;simp_all
 | set n=>exact⟨_,h,fun _ z=>(nomatch z),fun _ _ z=>(nomatch z),fun _ z=>nomatch z⟩
 | dic kvs=>obtain⟨vs,e,_⟩:=h;simp_all
 | dit kvs=>obtain⟨vs,e,_⟩:=h;simp_all
theorem aV.mem (r:aV K g α H h) (hp:p∈α):∃u,H p=some u/\(∀ys,u≠.tup ys)/\(∀w ys,u≠.frz w ys)/\∀ps,u≠.tbl ps:=by
 obtain⟨n,hn,e⟩:=OW hp
 have hn':n<h.length:=by rw[<- r.len];exact hn
 exact(r.here n p _ (by simp_all) (Np hn')).isS
theorem OAt.ex0 (e:Ex0 K α H α' H') (h:OAt K g α H p o) (k:∀u,H p=some u->H' p=some u):OAt K g α' H' p o:=by
 cases o with
 | lst ds=>obtain⟨vs,a,r⟩:=h;exact⟨vs,k _ a,r.ex0 e⟩
 | set n=>exact k _ h
 | dic kvs=>obtain⟨kws,a,r⟩:=h;exact⟨kws,k _ a,Paired.Iz e r⟩
 | dit kvs=>obtain⟨kws,a,r⟩:=h;exact⟨kws,k _ a,Paired.JN e r⟩
noncomputable def C5 (H:Hp) (p:Addr):Prop:=H p=none\/∃u,H p=some u/\(∀ys,u≠.tup ys)/\(∀w ys,u≠.frz w ys)/\∀ps,u≠.tbl ps
theorem Ex0.upd (n:C5 H p):Ex0 K α H α (upd H p o):=by
 have ne:∀q u,H q=some u->((∃ys,u=.tup ys)\/(∃w ys,u=.frz w ys)\/∃ps,u=.tbl ps)->q≠p:=by
  rintro q u e z rfl
  rcases n with n | ⟨u',e',n1,n2,n3⟩
  ·simp_all
  simp_all
 refine⟨Qg _,fun q xs h=>?_,fun q o u h=>?_,fun q ps h=>⟨#[],?_⟩⟩
 ·rw[aQ (ne q _ h (.inl ⟨_,rfl⟩))];exact h
 ·rw[aQ (ne q _ h (.inr (.inl ⟨_,_,rfl⟩)))];exact h
 ·rw[aQ (ne q _ h (.inr (.inr ⟨_,rfl⟩))),h];simp
theorem Ex0.more (e:Ex0 K α H α H') (l):Ex0 K α H (α++l) H':=⟨List.prefix_append _ _,e.tup,e.frz,e.tbl⟩
theorem Ext.fresh (n:H p=none):Ext K α H α (upd H p o):=⟨Ex0.upd (.inl n),fun q u h _ _=>by rw[aQ (bF h n)];exact h,fun _ z m=>absurd z m⟩
theorem Ext.push (n:H p=none):Ext K α H (α++[p]) (upd H p o):=⟨(Ex0.upd (.inl n)).more _,fun q u h _ _=>by rw[aQ (bF h n)];exact h,fun q z m=>by
 simp_all⟩
theorem aV.off {p:Addr}{o:HO} (r:aV K g α H h) (n:C5 H p) (m:p∉α):aV K g α (upd H p o) h:=by
 refine⟨r.len,r.inj,fun k q u a b=>(r.here k q u a b).ex0 (Ex0.upd n) fun w e=>?_,r.tab.upd n⟩
 rw[aQ];exact e
 rintro rfl;exact m (NP a)
theorem aV.free (r:aV K g α H h) (n:H p=none):p∉α:=fun z=>by
 obtain⟨u,e,_⟩:=r.mem z
 simp_all
theorem aV.grow (r:aV K g α H h) (n:H p=none):aV K g α (upd H p o) h:=r.off (.inl n) (r.free n)
theorem aV.adopt {p:Addr}{u:O} (r:aV K g α H h) (n:p∉α) (a:OAt K g (α++[p]) H p u):aV K g (α++[p]) H (h++[u]):=by
 have old:∀{m:Nat} {q:Addr},(α++[p])[m]?=some q->(α[m]?=some q)\/(m=α.length/\q=p):=by
  intro m q h1
  by_cases hm:m<α.length
  ·rw[Nq hm] at h1
   exact .inl h1
  ·have hl:m<(α++[p]).length:=by
    by_cases hl:m<(α++[p]).length
    ·exact hl
    ·rw[OJ (by lia)] at h1;cases h1
   have e:m=α.length:=by simp at hl;lia
   subst e
   simp at h1
   exact .inr ⟨rfl,h1.symm⟩
 refine⟨by simp[r.len],fun m k q h1 h2=>?_,fun m q w h1 h2=>?_,r.tab⟩
 ·rcases old h1 with a1 | ⟨e1,e2⟩
  ·rcases old h2 with a2 | ⟨e3,e4⟩
   ·exact r.inj m k q a1 a2
   ·rw[e4] at a1;exact absurd (NP a1) n
  ·rcases old h2 with a2 | ⟨e3,e4⟩
   ·rw[e2] at a2;exact absurd (NP a2) n
   ·rw[e1,e3]
 ·rcases old h1 with a1 | ⟨e1,e2⟩
  ·have hm:m<α.length:=by
    by_cases hl:m<α.length
    ·exact hl
    ·rw[OJ (by lia)] at a1;cases a1
   rw[Nq (by rw[<- r.len];exact hm)] at h2
   exact(r.here m q w a1 h2).ex0 (Ex0.refl.more _) fun _ z=>z
  ·subst e1 e2
   rw[r.len] at h2
   simp at h2
   subst h2
   exact a
theorem aV.push (r:aV K g α H h) (n:H p=none) (a:OAt K g (α++[p]) (upd H p o) p u):aV K g (α++[p]) (upd H p o) (h++[u]):=(r.grow n).adopt (r.free n) a
theorem Ext.write {p:Addr}{o:HO}{k:Nat} (r:aV K g α H h) (hk:α[k]?=some p):Ext K α H α (upd H p o):=
 ⟨Ex0.upd (.inr (r.mem (NP hk))),fun q u h m _=>by
  rw[aQ];exact h
  rintro rfl;exact m (NP hk),fun _ z m=>absurd z m⟩
theorem aV.write (r:aV K g α H h) (hk:α[k]?=some p) (a:OAt K g α (upd H p o) p u'):aV K g α (upd H p o) (h.set k u'):=by
 have x:Ext K α H α (upd H p o):=Ext.write r hk
 refine⟨by simp[r.len],r.inj,fun m q w h1 h2=>?_,r.tab.upd (.inr (r.mem (NP hk)))⟩
 rw[List.getElem?_set] at h2
 by_cases hm:k=m
 ·simp_all
 ·rw[if_neg hm] at h2
  refine(r.here m q w h1 h2).ex0 x.toEx0 fun z e=>?_
  rw[aQ];exact e
  rintro rfl;exact hm (r.inj _ _ _ hk h1)
end
noncomputable abbrev GG:=Str->Option Addr
noncomputable abbrev EE:=List Addr->Hp->Xc->Prop
structure jh (K) (g:GG) (α) (H) (env:En) (σ:St):Prop where
 len:env.length=σ.length
 vars:∀(i:Nat) d , env[i]?=some (some d)->∃v,σ[i]?=some (some v)/\aL K g α H d v
structure cZ (K) (g:GG) (α) (H) (env) (σ) (h):Prop where
 heap:aV K g α H h
 vs:jh K g α H env σ
noncomputable def WQ (K:ab) (g:GG) (ε:EE) (α:List Addr) (H:Hp){β:Type} (r:R β) (k:β->Hh->Prop):Prop:=match r with
 | .ok b h=>k b h
 | .err x h=>∀α' H',Ext K α H α' H'->aV K g α' H' h->ε α' H' x
 | .bad=>False
section
variable {K:ab}{g:GG}{ε:EE}{α α':List Addr}{H H':Hp}{β γ:Type}
theorem WQ.bind {f:β->Hh->R γ} (w:WQ K g ε α H (r.bind f) k):WQ K g ε α H r fun b h=>WQ K g ε α H (f b h) k:=by
 cases r<;>exact w
theorem WQ.ext (e:Ext K α H α' H') (w:WQ K g ε α H r k):WQ K g ε α' H' r k:=by
 cases r with
 | ok b h=>exact w
 | err x h=>exact fun a b c d=>w a b (e.trans c) d
 | bad=>exact w
theorem WQ.mono (w:WQ K g ε α H r k) (m:∀b h,r=.ok b h->k b h->k' b h):WQ K g ε α H r k':=by
 cases r with
 | ok b h=>exact m b h rfl w
 | err x h=>exact w
 | bad=>exact w
theorem jh.ext {env:En}{σ:St} (v:jh K g α H env σ) (e:Ext K α H α' H'):jh K g α' H' env σ:=
 ⟨v.len,fun i d h=>let ⟨x,a,b⟩:=v.vars i d h;⟨x,a,b.ext e⟩⟩
theorem cZ.ext (v:cZ K g α H env σ h) (e:Ext K α H α' H') (r:aV K g α' H' h'):cZ K g α' H' env σ h':=⟨r,v.vs.ext e⟩
theorem jh.set (v:jh K g α H env σ) (r:aL K g α H d x):jh K g α H (env.set i (some d)) (σ.set i (some x)):=by
 refine⟨by simp[v.len],fun j e h=>?_⟩
 rw[List.getElem?_set] at h ⊢
 by_cases hj:i=j
 ·subst hj
  rw[if_pos rfl] at h ⊢
  have hl:=v.len
  simp_all
 ·rw[if_neg hj] at h ⊢
  exact v.vars j e h
end
noncomputable def aO (K:ab) (g:GG) (α:List Addr) (H:Hp) (Q:VK):D->Hh->Prop:=fun d h=>∀v H' α',Ext K α H α' H'->aV K g α' H' h->aL K g α' H' d v->Q v H'
noncomputable def lN (K:ab) (g:GG) (α:List Addr) (H:Hp) (Q:Bool->Hp->Prop):Bool->Hh->Prop:=fun b h=>∀H' α',Ext K α H α' H'->aV K g α' H' h->Q b H'
noncomputable def Jr (K:ab) (g:GG) (α:List Addr) (H:Hp) (Q:List V->Hp->Prop):List D->Hh->Prop:=fun ds h=>∀vs H' α',Ext K α H α' H'->aV K g α' H' h->au K g α' H' ds vs->Q vs H'
noncomputable def cp (K:ab) (g:GG) (α:List Addr) (H:Hp) (E:Ends):Fl->Hh->Prop:=fun fl h=>∀H' α',Ext K α H α' H'->aV K g α' H' h->match fl with
 | .nx e=>∀σ,jh K g α' H' e σ->E.nx σ H'
 | .bk e=>∀σ,jh K g α' H' e σ->E.bk σ H'
 | .ct e=>∀σ,jh K g α' H' e σ->E.ct σ H'
 | .rt d=>∀v,aL K g α' H' d v->E.rt v H'
noncomputable def tM (K:ab) (g:GG) (ε:EE) (m:ME):TE:=fun σ H Q=>∃α env h,cZ K g α H env σ h/\WQ K g ε α H (m env h) (aO K g α H Q)
noncomputable def tMT (K:ab) (g:GG) (ε:EE) (m:MT):TT:=fun σ H Q=>∃α env h,cZ K g α H env σ h/\WQ K g ε α H (m env h) (lN K g α H Q)
noncomputable def tMA (K:ab) (g:GG) (ε:EE) (m:MA):TA:=fun σ H Q=>∃α env h,cZ K g α H env σ h/\WQ K g ε α H (m env h) (Jr K g α H Q)
noncomputable def tMS (K:ab) (g:GG) (ε:EE) (m:MS):TS:=fun E σ H=>∃α env h,cZ K g α H env σ h/\WQ K g ε α H (m env h) (cp K g α H E)
section
variable {K:ab}{g:GG}{ε:EE}{α α':List Addr}{H H':Hp}{env:En}{σ:St}{h:Hh}
theorem aO.ext (e:Ext K α H α' H') (p:aO K g α H Q d h):aO K g α' H' Q d h:=fun v H2 α2 e2 r rd=>p v H2 α2 (e.trans e2) r rd
theorem lN.ext (e:Ext K α H α' H') (p:lN K g α H Q d h):lN K g α' H' Q d h:=fun H2 α2 e2 r=>p H2 α2 (e.trans e2) r
theorem cp.ext (e:Ext K α H α' H') (p:cp K g α H E d h):cp K g α' H' E d h:=fun H2 α2 e2 r=>p H2 α2 (e.trans e2) r
theorem WQ.post (e:Ext K α H α' H') (w:WQ K g ε α H r (aO K g α H Q)):WQ K g ε α' H' r (aO K g α' H' Q):=(w.ext e).mono fun _ _ _ p=>p.ext e
theorem WQ.JQ (e:Ext K α H α' H') (w:WQ K g ε α H r (lN K g α H Q)):WQ K g ε α' H' r (lN K g α' H' Q):=(w.ext e).mono fun _ _ _ p=>p.ext e
theorem WQ.yU (e:Ext K α H α' H') (w:WQ K g ε α H r (cp K g α H E)):WQ K g ε α' H' r (cp K g α' H' E):=(w.ext e).mono fun _ _ _ p=>p.ext e
theorem tM.use (s:cZ K g α H env σ h) (w:WQ K g ε α H (m env h) k)
  (q:∀d h' v H' α',Ext K α H α' H'->cZ K g α' H' env σ h'->aL K g α' H' d v->k d h'->Q v H'):tM K g ε m σ H Q:=
 ⟨α,env,h,s,w.mono fun d h' _ kk v H' α' e r rd=>q d h' v H' α' e (s.ext e r) rd kk⟩
theorem tMT.use (s:cZ K g α H env σ h) (w:WQ K g ε α H (m env h) k)
  (q:∀d h' H' α',Ext K α H α' H'->cZ K g α' H' env σ h'->k d h'->Q d H'):tMT K g ε m σ H Q:=
 ⟨α,env,h,s,w.mono fun d h' _ kk H' α' e r=>q d h' H' α' e (s.ext e r) kk⟩
theorem tMA.use (s:cZ K g α H env σ h) (w:WQ K g ε α H (m env h) k)
  (q:∀d h' v H' α',Ext K α H α' H'->cZ K g α' H' env σ h'->au K g α' H' d v->k d h'->Q v H'):tMA K g ε m σ H Q:=
 ⟨α,env,h,s,w.mono fun d h' _ kk v H' α' e r rd=>q d h' v H' α' e (s.ext e r) rd kk⟩
theorem aO.now (p:aO K g α H Q d h) (r:aV K g α H h) (rd:aL K g α H d v):Q v H:=p v H α Ext.refl r rd
end
theorem PE.imp (h:PE X e t) (i:∀σ H Q,t' σ H Q->t σ H Q):PE X e t':=fun pins s σ H Q I w=>h pins s σ H Q I (i σ H Q w)
theorem PT.imp (h:PT X e t) (i:∀σ H Q,t' σ H Q->t σ H Q):PT X e t':=fun pins s σ H Q I w=>h pins s σ H Q I (i σ H Q w)
theorem PW.imp (h:PW X e t) (i:∀σ H Q,t' σ H Q->t σ H Q):PW X e t':=fun wh pins s σ H Q I w=>h wh pins s σ H Q I (i σ H Q w)
theorem PA.imp (h:PA X e t) (i:∀σ H Q,t' σ H Q->t σ H Q):PA X e t':=fun p pins s σ H Q I w=>h p pins s σ H Q I (i σ H Q w)
theorem PS.imp (h:PS X e t) (i:∀σ H Q,t' σ H Q->t σ H Q):PS X e t':=fun pins s σ H Q I w=>h pins s σ H Q I (i Q σ H w)
theorem PSs.imp (h:PSs X e t) (i:∀σ H Q,t' σ H Q->t σ H Q):PSs X e t':=fun pins s σ H Q I w=>h pins s σ H Q I (i Q σ H w)
noncomputable def af (i:Nat):ME:=fun env h=>match env[i]? with
 | some (some d)=>.ok d h
 | _=>.bad
noncomputable def cC (d:D):ME:=fun _ h=>.ok d h
noncomputable def aq (f:D->D->Hh->R D) (a b:ME):ME:=fun env h=>(a env h).bind fun x h1=>(b env h1).bind fun y h2=>f x y h2
noncomputable def cUn (f:D->Hh->R D) (a:ME):ME:=fun env h=>(a env h).bind fun x h1=>f x h1
noncomputable def aj:MA:=fun _ h=>.ok [] h
noncomputable def ae (a:ME) (r:MA):MA:=fun env h=>(a env h).bind fun x h1=>(r env h1).bind fun xs h2=>.ok (x::xs) h2
noncomputable def ah (f:List D->Hh->R D) (a:MA):ME:=fun env h=>(a env h).bind fun xs h1=>f xs h1
noncomputable def aB (f:D->Hh->R Bool) (a:ME):MT:=fun env h=>(a env h).bind fun x h1=>f x h1
noncomputable def cQ (a:MT):MT:=fun env h=>(a env h).bind fun b h1=>.ok (!b) h1
noncomputable def qJ (a b:MT):MT:=fun env h=>(a env h).bind fun x h1=>if x=true then b env h1 else .ok false h1
noncomputable def gy (a b:MT):MT:=fun env h=>(a env h).bind fun x h1=>if x=true then .ok true h1 else b env h1
noncomputable def cIf (c:MT) (a b:ME):ME:=fun env h=>(c env h).bind fun x h1=>if x=true then a env h1 else b env h1
noncomputable def asB:D->Hh->R Bool
 | .bl b,h=>.ok b h
 | _,_=>.bad
noncomputable def xW (a b:ME):ME:=fun env h=>(a env h).bind fun x h1=>(asB x h1).bind fun k h2=>if k=true then b env h2 else .ok (.bl false) h2
noncomputable def EI (a:ME):ME:=fun env h=>(a env h).bind fun x h1=>(asB x h1).bind fun k h2=>.ok (.bl (!k)) h2
noncomputable def gz (f f':D->D->Hh->R D) (a b c:ME):ME:=fun env h=>(a env h).bind fun x h1=>(b env h1).bind fun y h2=>(f x y h2).bind fun z h3=>(asB z h3).bind fun k h4=>
 if k=true then (c env h4).bind fun w h5=>f' y w h5 else .ok (.bl false) h4
noncomputable def dM (K:ab) (g:GG) (ε:EE) (f:D->D->Hh->R D) (r:R2):Prop:=
 ∀α H h a b x y Q , aV K g α H h->aL K g α H a x->aL K g α H b y->WQ K g ε α H (f a b h) (aO K g α H Q)->r x y H Q
noncomputable def JD (K:ab) (g:GG) (ε:EE) (f:D->Hh->R D) (r:V->Hp->VK->Prop):Prop:=
 ∀α H h a x Q , aV K g α H h->aL K g α H a x->WQ K g ε α H (f a h) (aO K g α H Q)->r x H Q
noncomputable def IB (K:ab) (g:GG) (ε:EE) (f:D->Hh->R Bool) (r:V->Hp->(Bool->Hp->Prop)->Prop):Prop:=
 ∀α H h a x Q , aV K g α H h->aL K g α H a x->WQ K g ε α H (f a h) (lN K g α H Q)->r x H Q
noncomputable def kl (K:ab) (g:GG) (ε:EE) (f:List D->Hh->R D) (r:List V->Hp->VK->Prop):Prop:=
 ∀α H h a x Q , aV K g α H h->au K g α H a x->WQ K g ε α H (f a h) (aO K g α H Q)->r x H Q
noncomputable def Aa (K:ab) (g:GG) (ε:EE) (f:D->List D->Hh->R D) (r:V->List V->Hp->VK->Prop):Prop:=
 ∀α H h o a y x Q , aV K g α H h->aL K g α H o y->au K g α H a x->WQ K g ε α H (f o a h) (aO K g α H Q)->r y x H Q
section
variable {X:Cx}{g:GG}{ε:EE}{a b c:Expr}{ma mb mc:ME}{pos:Pos}
theorem aa (i:Nat){x:Str}{pos:Pos} (hN:X.N[i]?=some x:=by rfl) (hv:Vis X.env.scope x:=by first | exact SW rfl | exact Te (SW rfl) | exact Te (Te rfl)) (hd:(x == ("__debug__" : Str))=false:=by decide)
  (hcd:(x == ("__classdict__" : Str))=false:=by decide):PE X (.Name x pos) (tM X.K g ε (af i)):=by
 refine PE.imp (FU hN hv hd hcd) fun σ H Q ⟨α,env,h,s,w⟩=>?_
 unfold af at w
 cases e:env[i]? with
 | none=>rw[e] at w;exact w.elim
 | some d=>
  cases d with
  | none=>rw[e] at w;exact w.elim
  | some d=>
   rw[e] at w
   obtain⟨v,hv,rd⟩:=s.vs.vars i d e
   exact⟨v,hv,aO.now w s.heap rd⟩
theorem Bs (rd:∀α,aL X.K g α H d v) (t:tM X.K g ε (cC d) σ H Q):tC v σ H Q:=by
 obtain⟨α,env,h,s,w⟩:=t
 exact aO.now w s.heap (rd α)
theorem ar:PE X (.Constant (.int i) j pos) (tM X.K g ε (cC (.int i))):=PE.imp FI fun _ _ _ t=>Bs (fun _=>.int i) t
theorem eM:PE X (.Constant (.bool i) j pos) (tM X.K g ε (cC (.bl i))):=PE.imp Jb fun _ _ _ t=>Bs (fun _=>.bl i) t
theorem cJ (hg:Gl X x) (hm:X.mg x=some (.int i t)) (hd:(x == ("__debug__" : Str))=false:=by decide):PE X (.Name x pos) (tM X.K g ε (cC (.int i))):=
 PE.imp (El (v:=.int i) hg hm ⟨t,rfl⟩ hd) fun _ _ _ t=>Bs (fun _=>.int i) t
theorem rD {K:ab} (im:dM K g ε f r) (t:tM K g ε (aq f ma mb) σ H Q):tOp r (tM K g ε ma) (tM K g ε mb) σ H Q:=by
 obtain⟨α,env,h,s,w⟩:=t
 refine tM.use s w.bind fun d1 h1 v1 H1 α1 e1 s1 r1 w1=>?_
 refine tM.use s1 (w1.ext e1).bind fun d2 h2 v2 H2 α2 e2 s2 r2 w2=>?_
 exact im α2 H2 h2 d1 d2 v1 v2 Q s2.heap (r1.ext e2) r2 ((w2.ext e2).mono fun _ _ _ p=>p.ext (e1.trans e2))
theorem lB (ho:OpR X (binaryOp op) r) (im:dM X.K g ε f r) (ha:PE X a (tM X.K g ε ma)) (hb:PE X b (tM X.K g ε mb)):PE X (.BinOp a op b pos) (tM X.K g ε (aq f ma mb)):=
 PE.imp (IU ho ha hb) fun _ _ _ t=>rD im t
theorem sL (ho:OpR X (compareOp op) r) (im:dM X.K g ε f r) (ha:PE X a (tM X.K g ε ma)) (hb:PE X b (tM X.K g ε mb)) (hm:behindInMarks op b=false):PE X (.Compare a [op] [b] pos) (tM X.K g ε (aq f ma mb)):=
 PE.imp (Cv ho ha hb hm) fun _ _ _ t=>rD im t
theorem u_ {K:ab} (ht:∀σ H Q,tM K g ε m σ H Q->t σ H Q) (w:tMT K g ε (aB asB m) σ H Q):Bh t σ H Q:=by
 obtain⟨α,env,h,s,w⟩:=w
 refine ht _ _ _ (tM.use s w.bind fun d1 h1 v1 H1 α1 e1 s1 r1 w1=>?_)
 cases r1 with
 | bl k=>exact⟨k,rfl,w1 H1 α1 e1 s1.heap⟩
 | _=>exact w1.elim
theorem bZ (ho:OpR X (compareOp op) r) (im:dM X.K g ε f r) (ha:PE X a (tM X.K g ε ma)) (hb:PE X b (tM X.K g ε mb)) (hm:behindInMarks op b=false):PT X (.Compare a [op] [b] pos) (tMT X.K g ε (aB asB (aq f ma mb))):=
 PT.imp (C3 ho ha hb hm) fun _ _ _ t=>u_ (fun _ _ _ u=>rD im u) t
theorem qt {K:ab} (im:dM K g ε f r) (im':dM K g ε f' r') (t:tM K g ε (gz f f' ma mb mc) σ H Q):wC r r' (tM K g ε ma) (tM K g ε mb) (tM K g ε mc) σ H Q:=by
 obtain⟨α,env,h,s,w⟩:=t
 refine tM.use s w.bind fun d1 h1 v1 H1 α1 e1 s1 r1 w1=>?_
 refine tM.use s1 (w1.ext e1).bind fun d2 h2 v2 H2 α2 e2 s2 r2 w2=>?_
 refine im α2 H2 h2 d1 d2 v1 v2 _ s2.heap (r1.ext e2) r2 ((w2.ext e2).bind.mono fun z h3 _ w3 v3 H3 α3 e3 hr3 r3=>?_)
 have w4:=w3.bind
 cases r3 with
 | bl k=>
  refine⟨k,rfl,?_⟩
  have s3:=s2.ext e3 hr3
  cases k with
  | true=>
   have w5:WQ K g ε α2 H2 ((mc env h3).bind fun w h5=>f' d2 w h5) _:=w4
   refine tM.use s3 (w5.ext e3).bind fun d4 h4 v4 H4 α4 e4 s4 r4 w6=>?_
   exact im' α4 H4 h4 d2 d4 v2 v4 Q s4.heap (r2.ext (e3.trans e4)) r4 ((w6.ext e4).mono fun _ _ _ p=>p.ext (e1.trans (e2.trans (e3.trans e4))))
  | false=>
   have w5:=w4
   exact w5 _ H3 α3 (e1.trans (e2.trans e3)) s3.heap (.bl false)
 | _=>exact w4.elim
theorem AH (ho:OpR X (compareOp op) r) (ho':OpR X (compareOp op') r') (im:dM X.K g ε f r) (im':dM X.K g ε f' r') (ha:PE X a (tM X.K g ε ma)) (hb:PE X b (tM X.K g ε mb)) (hc:PE X c (tM X.K g ε mc))
  (hm:lastMarks [op,op'] [b,c]=false:=by with_unfolding_all rfl):PE X (.Compare a [op,op'] [b,c] pos) (tM X.K g ε (gz f f' ma mb mc)):=PE.imp (Cg ho ho' ha hb hc hm) fun _ _ _ t=>qt im im' t
theorem ke (ho:OpR X (compareOp op) r) (ho':OpR X (compareOp op') r') (im:dM X.K g ε f r) (im':dM X.K g ε f' r') (ha:PE X a (tM X.K g ε ma)) (hb:PE X b (tM X.K g ε mb)) (hc:PE X c (tM X.K g ε mc))
  (hm:lastMarks [op,op'] [b,c]=false:=by with_unfolding_all rfl):PT X (.Compare a [op,op'] [b,c] pos) (tMT X.K g ε (aB asB (gz f f' ma mb mc))):=PT.imp (Co ho ho' ha hb hc hm) fun _ _ _ t=>u_ (fun _ _ _ u=>qt im im' u) t
theorem yr {op:UnaryOp}{r:V->Hp->VK->Prop}{f:D->Hh->R D} (ho:UnR X (unaryOp op) r) (im:JD X.K g ε f r) (ha:PE X a (tM X.K g ε ma)):PE X (.UnaryOp op a pos) (tM X.K g ε (cUn f ma)):=
 PE.imp (Jh ho ha) fun σ H Q ⟨α,env,h,s,w⟩=>tM.use s w.bind fun d1 h1 v1 H1 α1 e1 s1 r1 w1=>im α1 H1 h1 d1 v1 Q s1.heap r1 (w1.post e1)
theorem Kl (hr:IxR X r) (im:dM X.K g ε f r) (ha:PE X a (tM X.K g ε ma)) (hb:PE X b (tM X.K g ε mb)) (hs:yA b):PE X (.Subscript a b pos) (tM X.K g ε (aq f ma mb)):=
 PE.imp (JO hr ha hb hs) fun _ _ _ t=>rD im t
theorem cz {f:D->Hh->R Bool} (im:IB X.K g ε f (fun x H Q=>∃k,CZ X.K x H k/\Q k H)) (ha:PE X a (tM X.K g ε ma)) (he:∀whole,isTrue a X.env whole=(do let v ← whole;standAt a.pos;holding [v] (truthy v))):PT X a (tMT X.K g ε (aB f ma)):=
 PT.imp (B5 ha he) fun σ H Q ⟨α,env,h,s,w⟩=>tM.use s w.bind fun d1 h1 v1 H1 α1 e1 s1 r1 w1=>im α1 H1 h1 d1 v1 Q s1.heap r1 (w1.JQ e1)
theorem dg {mt:MT} (ha:PT X a (tMT X.K g ε mt)):PT X (.UnaryOp .Not a pos) (tMT X.K g ε (cQ mt)):=
 PT.imp (F_ ha) fun σ H Q ⟨α,env,h,s,w⟩=>tMT.use s w.bind fun d1 h1 H1 α1 e1 s1 w1=>w1 H1 α1 e1 s1.heap
end
section
variable {X:Cx}{g:GG}{ε:EE}{a b c e:Expr}{es:List Expr}{rest:List Expr}{ma mb mc me:ME}{mt mu:MT}{pos:Pos}
theorem xU (ha:PT X a (tMT X.K g ε mt)):PW X (.BoolOp .And [a] pos) (tMT X.K g ε mt):=pw_and1 ha
theorem hZ (ha:PT X a (tMT X.K g ε mt)):PW X (.BoolOp .Or [a] pos) (tMT X.K g ε mt):=pw_or1 ha
theorem A4 (ha:PT X a (tMT X.K g ε mt)) (hb:PW X (.BoolOp .And (b::rest) pos) (tMT X.K g ε mu)):PW X (.BoolOp .And (a::b::rest) pos) (tMT X.K g ε (qJ mt mu)):=
 PW.imp (pw_and ha hb) fun σ H Q ⟨α,env,h,s,w⟩=>tMT.use s w.bind fun d1 h1 H1 α1 e1 s1 w1=>by
  cases d1 with
  | true=>rw[if_pos rfl] at w1 ⊢;exact tMT.use s1 (w1.ext e1) fun d2 h2 H2 α2 e2 s2 w2=>w2 H2 α2 (e1.trans e2) s2.heap
  | false=>rw[if_neg NK] at w1 ⊢;exact w1 H1 α1 e1 s1.heap
theorem jS (ha:PT X a (tMT X.K g ε mt)) (hb:PW X (.BoolOp .Or (b::rest) pos) (tMT X.K g ε mu)):PW X (.BoolOp .Or (a::b::rest) pos) (tMT X.K g ε (gy mt mu)):=
 PW.imp (pw_or ha hb) fun σ H Q ⟨α,env,h,s,w⟩=>tMT.use s w.bind fun d1 h1 H1 α1 e1 s1 w1=>by
  cases d1 with
  | true=>rw[if_pos rfl] at w1 ⊢;exact w1 H1 α1 e1 s1.heap
  | false=>rw[if_neg NK] at w1 ⊢;exact tMT.use s1 (w1.ext e1) fun d2 h2 H2 α2 e2 s2 w2=>w2 H2 α2 (e1.trans e2) s2.heap
theorem nO (hc:PT X c (tMT X.K g ε mt)) (ha:PE X a (tM X.K g ε ma)) (hb:PE X b (tM X.K g ε mb)):PE X (.IfExp c a b pos) (tM X.K g ε (cIf mt ma mb)):=
 PE.imp (BM hc ha hb) fun σ H Q ⟨α,env,h,s,w⟩=>tMT.use s w.bind fun d1 h1 H1 α1 e1 s1 w1=>by
  cases d1 with
  | true=>rw[if_pos rfl] at w1 ⊢;exact tM.use s1 (w1.ext e1) fun d2 h2 v2 H2 α2 e2 s2 r2 w2=>w2 v2 H2 α2 (e1.trans e2) s2.heap r2
  | false=>rw[if_neg NK] at w1 ⊢;exact tM.use s1 (w1.ext e1) fun d2 h2 v2 H2 α2 e2 s2 r2 w2=>w2 v2 H2 α2 (e1.trans e2) s2.heap r2
theorem Cb (h:PE X a (tM X.K g ε ma)):PE X (.BoolOp op [a] pos) (tM X.K g ε ma):=Ff h
theorem AA {K:ab}{k:β->Hh->Prop} (r:aL K g α1 H1 d v) (w:WQ K g ε α H ((asB d h).bind f) k):∃b,v=.bl b/\d=.bl b/\WQ K g ε α H (f b h) k:=by
 cases r with
 | bl b=>exact⟨b,rfl,rfl,w⟩
 | _=>exact w.elim
theorem BQ (ha:PE X a (tM X.K g ε ma)) (hb:PE X (.BoolOp .And (b::rest) pos) (tM X.K g ε mb)):PE X (.BoolOp .And (a::b::rest) pos) (tM X.K g ε (xW ma mb)):=
 PE.imp (Gb ha hb) fun σ H Q ⟨α,env,h,s,w⟩=>tM.use s w.bind fun d1 h1 v1 H1 α1 e1 s1 r1 w1=>by
  obtain⟨k,rfl,rfl,w2⟩:=AA r1 w1
  refine⟨k,rfl,?_⟩
  cases k with
  | true=>rw[if_pos rfl] at w2 ⊢;exact tM.use s1 (w2.ext e1) fun d2 h2 v2 H2 α2 e2 s2 r2 w2=>w2 v2 H2 α2 (e1.trans e2) s2.heap r2
  | false=>rw[if_neg NK] at w2 ⊢;exact w2 _ H1 α1 e1 s1.heap (.bl false)
theorem FO (ha:PE X a (tM X.K g ε ma)):PE X (.UnaryOp .Not a pos) (tM X.K g ε (EI ma)):=
 PE.imp (GX ha) fun σ H Q ⟨α,env,h,s,w⟩=>tM.use s w.bind fun d1 h1 v1 H1 α1 e1 s1 r1 w1=>by
  obtain⟨k,rfl,rfl,w2⟩:=AA r1 w1
  exact⟨k,rfl,w2 _ H1 α1 e1 s1.heap (.bl _)⟩
variable {mr:MA}
theorem ai:PA X [] (tMA X.K g ε aj):=PA.imp oJ fun σ H Q ⟨α,env,h,s,w⟩=>w [] H α Ext.refl s.heap .nil
theorem D8 (ha:PE X e (tM X.K g ε ma)) (hr:PA X es (tMA X.K g ε mr)) (hs:starEach (e::es) X.env=(false,eval e X.env)::starEach es X.env:=by rfl):PA X (e::es) (tMA X.K g ε (ae ma mr)):=
 PA.imp (i8 ha hr hs) fun σ H Q ⟨α,env,h,s,w⟩=>tM.use s w.bind fun d1 h1 v1 H1 α1 e1 s1 r1 w1=>tMA.use s1 (w1.ext e1).bind fun d2 h2 v2 H2 α2 e2 s2 r2 w2=>w2 _ H2 α2 (e1.trans e2) s2.heap (.cons (r1.ext e2) r2)
noncomputable def ip:List D->Hh->R D:=fun ds h=>if ds.length<=1000000 then .ok (.tup ds) h else .bad
theorem aO.tup {K:ab}{α:List Addr}{H:Hp}{h:Hh}{ds:List D}{vs:List V}{Q:VK}{p:Addr} (w:aO K g α H Q (.tup ds) h) (r:aV K g α H h) (rd:au K g α H ds vs) (n:H p=none):Q (.ref p) (upd H p (.tup vs)):=
 w _ _ α (Ext.fresh n) (r.grow n) (.tup bp (rd.ext (Ext.fresh n)))
theorem WQ.dO {K:ab}{α:List Addr}{H:Hp}{β:Type}{c:Prop} [Decidable c]{r:R β}{k:β->Hh->Prop} (w:WQ K g ε α H (if c then r else .bad) k):c/\WQ K g ε α H r k:=by
 by_cases h:c
 ·simp_all
 ·rw[if_neg h] at w;exact w.elim
theorem h8 (h:n<=1000000):n<=sizeLine:=by rw[Oi];lia
theorem HP {x1} (ha:PA X es (tMA X.K g ε mr)):PE X (.Tuple es x1 pos) (tM X.K g ε (ah ip mr)):=
 PE.imp (Fm ha) fun σ H Q ⟨α,env,h,s,w⟩=>tMA.use s w.bind fun d1 h1 v1 H1 α1 e1 s1 r1 w1=>by
  obtain⟨hl,w2⟩:=WQ.dO w1
  exact⟨h8 (by rw[<- r1.length];exact hl),fun p hp=>aO.tup (aO.ext e1 w2) s1.heap r1 hp⟩
theorem xB {K:ab} (im:kl K g ε f r) (t:tM K g ε (ah f mr) σ H Q):tCB r (tMA K g ε mr) σ H Q:=by
 obtain⟨α,env,h,s,w⟩:=t
 exact tMA.use s w.bind fun d1 h1 v1 H1 α1 e1 s1 r1 w1=>im α1 H1 h1 d1 v1 Q s1.heap r1 (w1.post e1)
theorem aE {id:String}{p:Pos} (hc:bB X (.builtin id) r) (im:kl X.K g ε f r) (hg:Gl X x) (hm:X.mg x=none) (hv:bootBuiltins x=some (.builtin id)) (ha:PA X (e::es) (tMA X.K g ε mr)) (hn:x≠"__name__" := by decide) (hdb:(x == ("__debug__" : Str))=false:=by decide)
  (he:starEach (e::es) X.env=(false,eval e X.env)::starEach es X.env:=by rfl) (hpl:(backTo pos (starEach es X.env)).any (·.1)=false:=by rfl):PE X (.Call (.Name x p) (e::es) [] pos) (tM X.K g ε (ah f mr)):=
 PE.imp (oW hc hg hm hv ha hn hdb he hpl) fun _ _ _ t=>xB im t
theorem bW {id:String}{p:Pos} (hc:bB X (.type id) r) (im:kl X.K g ε f r) (hg:Gl X x) (hm:X.mg x=none) (hv:bootBuiltins x=some (.type id)) (ha:PA X (e::es) (tMA X.K g ε mr)) (hn:x≠"__name__" := by decide) (hdb:(x == ("__debug__" : Str))=false:=by decide)
  (he:starEach (e::es) X.env=(false,eval e X.env)::starEach es X.env:=by rfl) (hpl:(backTo pos (starEach es X.env)).any (·.1)=false:=by rfl):PE X (.Call (.Name x p) (e::es) [] pos) (tM X.K g ε (ah f mr)):=
 PE.imp (i7 hc hg hm hv ha hn hdb he hpl) fun _ _ _ t=>xB im t
end
noncomputable def bc:MS:=fun env h=>.ok (.nx env) h
noncomputable def ax (a b:MS):MS:=fun env h=>(a env h).bind fun fl h1=>match fl with
 | .nx e=>b e h1
 | fl=>.ok fl h1
noncomputable def cK (a:ME):MS:=fun env h=>(a env h).bind fun _ h1=>.ok (.nx env) h1
noncomputable def aU (a:ME):MS:=fun env h=>(a env h).bind fun d h1=>.ok (.rt d) h1
noncomputable def bR (c:MT) (a b:MS):MS:=fun env h=>(c env h).bind fun x h1=>if x=true then a env h1 else b env h1
noncomputable def bf (i:Nat) (a:ME):MS:=fun env h=>(a env h).bind fun d h1=>.ok (.nx (env.set i (some d))) h1
noncomputable def zf (i j:Nat) (a:MA):MS:=fun env h=>(a env h).bind fun ds h1=>match ds with
 | [x,y]=>.ok (.nx ((env.set i (some x)).set j (some y))) h1
 | _=>.bad
noncomputable def JK (i:Nat) (f:D->D->Hh->R D) (a:ME):MS:=fun env h=>(af i env h).bind fun x h0=>(a env h0).bind fun y h1=>(f x y h1).bind fun z h2=>.ok (.nx (env.set i (some z))) h2
noncomputable def jF (f:D->D->D->Hh->R Unit) (o i v:ME):MS:=fun env h=>(v env h).bind fun x h1=>(o env h1).bind fun y h2=>(i env h2).bind fun z h3=>(f y z x h3).bind fun _ h4=>.ok (.nx env) h4
noncomputable def uz:MS:=fun _ _=>.bad
section
variable {X:Cx}{g:GG}{ε:EE}{e:Expr}{me:ME}{ms mu:MS}{mt:MT}{st:Stmt}{rest:List Stmt}{pos:Pos}
theorem cZ.nx {K:ab} (s:cZ K g α' H' env σ h') (e:Ext K α H α' H') (w:cp K g α H E (.nx env) h'):E.nx σ H':=w H' α' e s.heap σ s.vs
theorem bj:PSs X [] (tMS X.K g ε bc):=PSs.imp CH fun E σ H ⟨α,env,h,s,w⟩=>s.nx Ext.refl w
theorem tMS.use {K:ab} (s:cZ K g α H env σ h) (w:WQ K g ε α H (m env h) k)
  (q:∀fl h' H' α',Ext K α H α' H'->aV K g α' H' h'->k fl h'->match fl with
   | .nx e=>∀σ',cZ K g α' H' e σ' h'->E.nx σ' H'
   | .bk e=>∀σ',cZ K g α' H' e σ' h'->E.bk σ' H'
   | .ct e=>∀σ',cZ K g α' H' e σ' h'->E.ct σ' H'
   | .rt d=>∀v,aL K g α' H' d v->E.rt v H'):tMS K g ε m E σ H:=
 ⟨α,env,h,s,w.mono fun fl h' _ kk H' α' e r=>by
  have:=q fl h' H' α' e r kk
  cases fl with
  | nx e=>exact fun σ' v=>this σ' ⟨r,v⟩
  | bk e=>exact fun σ' v=>this σ' ⟨r,v⟩
  | ct e=>exact fun σ' v=>this σ' ⟨r,v⟩
  | rt d=>lia⟩
theorem CB (h1:PS X st (tMS X.K g ε ms)) (h2:PSs X rest (tMS X.K g ε mu)):PSs X (st::rest) (tMS X.K g ε (ax ms mu)):=
 PSs.imp (Bx h1 h2) fun E σ H ⟨α,env,h,s,w⟩=>tMS.use s w.bind fun fl h' H' α' e r kk=>by
  cases fl with
  | nx env'=>exact fun σ' s'=>⟨α',env',h',s',WQ.yU e kk⟩
  | bk env'=>exact fun σ' s'=>(show cp X.K g α H E (.bk env') h' from kk) H' α' e r σ' s'.vs
  | ct env'=>exact fun σ' s'=>(show cp X.K g α H E (.ct env') h' from kk) H' α' e r σ' s'.vs
  | rt d=>exact fun v rv=>(show cp X.K g α H E (.rt d) h' from kk) H' α' e r v rv
theorem Hz (h1:PS X st (tMS X.K g ε ms)):PSs X [st] (tMS X.K g ε ms):=Dv h1
theorem cg (he:PE X e (tM X.K g ε me)) (hs:swapsWith e none pos.line X.env=pure false:=by rfl):PS X (.Expr e pos) (tMS X.K g ε (cK me)):=
 PS.imp (C2 he hs) fun E σ H ⟨α,env,h,s,w⟩=>tM.use s w.bind fun d1 h1 v1 H1 α1 e1 s1 r1 w1=>s1.nx e1 w1
theorem JH (he:PE X e (tM X.K g ε me)):PS X (.Return (some e) pos) (tMS X.K g ε (aU me)):=
 PS.imp (F8 he) fun E σ H ⟨α,env,h,s,w⟩=>tM.use s w.bind fun d1 h1 v1 H1 α1 e1 s1 r1 w1=>(show cp X.K g α H E (.rt d1) h1 from w1) H1 α1 e1 s1.heap v1 r1
theorem dW {c:Expr}{A B:List Stmt} (hc:PT X c (tMT X.K g ε mt)) (ha:PSs X A (tMS X.K g ε ms)) (hb:PSs X B (tMS X.K g ε mu)):PS X (.If c A B pos) (tMS X.K g ε (bR mt ms mu)):=
 PS.imp (JT hc ha hb) fun E σ H ⟨α,env,h,s,w⟩=>tMT.use s w.bind fun d1 h1 H1 α1 e1 s1 w1=>by
  cases d1 with
  | true=>rw[if_pos rfl] at w1 ⊢;exact⟨α1,env,h1,s1,WQ.yU e1 w1⟩
  | false=>rw[if_neg NK] at w1 ⊢;exact⟨α1,env,h1,s1,WQ.yU e1 w1⟩
theorem JP {i:Nat}{x:Str}{pos':Pos} (hN:X.N.Nodup) (hi:X.N[i]?=some x) (hx:Loc X.env.scope x) (he:PE X e (tM X.K g ε me)) (hs:swapsWith e (some (.Name x pos')) pos.line X.env=pure false:=by rfl) (hf:X.fn x=true\/X.env.scope.names.lookup x=some .local:=by first | exact .inl rfl | exact .inr rfl | assumption) :
  PS X (.Assign [.Name x pos'] e pos) (tMS X.K g ε (bf i me)):=
 PS.imp (GU hN hi hx he hs hf) fun E σ H ⟨α,env,h,s,w⟩=>tM.use s w.bind fun d1 h1 v1 H1 α1 e1 s1 r1 w1=>(show cp X.K g α H E (.nx (env.set i (some d1))) h1 from w1) H1 α1 e1 s1.heap _ (s1.vs.set r1)
theorem Kc {i j:Nat}{x y:Str}{a b:Expr}{ma:MA}{px py pt:Pos}{kt k2 pt2} (hc:X.calm=true) (hN:X.N.Nodup) (hi:X.N[i]?=some x) (hj:X.N[j]?=some y) (hij:i≠j)
  (hx:X.env.scope.names.lookup x=some .local) (hy:X.env.scope.names.lookup y=some .local) (ha:PA X [a,b] (tMA X.K g ε ma))
  (hw:swappedStores [.Tuple [.Name x px,.Name y py] kt pt] (.Tuple [a,b] k2 pt2) X.env=pure (some [x,y]))
  (hs:swapsWithSole [.Tuple [.Name x px,.Name y py] kt pt] (.Tuple [a,b] k2 pt2) pos.line X.env=pure false:=by rfl) :
  PS X (.Assign [.Tuple [.Name x px,.Name y py] kt pt] (.Tuple [a,b] k2 pt2) pos) (tMS X.K g ε (zf i j ma)):=
 PS.imp (Fz hc hN hi hj hij hx hy ha hw hs) fun E σ H ⟨α,env,h,s,w⟩=>tMA.use s w.bind fun d1 h1 v1 H1 α1 e1 s1 r1 w1=>by
  cases r1 with
  | nil=>exact w1.elim
  | cons ra rr=>
   cases rr with
   | nil=>exact w1.elim
   | cons rb rr=>
    cases rr with
    | nil=>exact⟨_,_,rfl,(show cp X.K g α H E (.nx _) h1 from w1) H1 α1 e1 s1.heap _ ((s1.vs.set ra).set rb)⟩
    | cons _ _=>exact w1.elim
theorem JZ {i:Nat}{x:Str}{op:S_}{ti:TIp}{f:D->D->Hh->R D}{pos':Pos} (hN:X.N.Nodup) (hi:X.N[i]?=some x) (hx:Loc X.env.scope x) (he:PE X e (tM X.K g ε me)) (ho:PIp X op ti) (im:dM X.K g ε f ti) (hf:X.fn x=true\/X.env.scope.names.lookup x=some .local:=by first | exact .inl rfl | exact .inr rfl | assumption) :
  PS X (.AugAssign (.Name x pos') op e pos) (tMS X.K g ε (JK i f me)):=
 PS.imp (Hj hN hi hx he ho hf) fun E σ H ⟨α,env,h,s,w⟩=>by
  have w0:=w.bind
  unfold af at w0
  cases ei:env[i]? with
  | none=>rw[ei] at w0;exact w0.elim
  | some d=>
   cases d with
   | none=>rw[ei] at w0;exact w0.elim
   | some d=>
    rw[ei] at w0
    have w1:=w0
    obtain⟨v,hv,rd⟩:=s.vs.vars i d ei
    refine⟨v,hv,tM.use s w1.bind fun d1 h1 v1 H1 α1 e1 s1 r1 w2=>?_⟩
    refine im α1 H1 h1 d d1 v v1 _ s1.heap (rd.ext e1) r1 ((w2.ext e1).bind.mono fun z h2 _ w3 v3 H3 α3 e3 hr3 r3=>?_)
    exact(show cp X.K g α H E (.nx _) h2 from w3) H3 α3 (e1.trans e3) hr3 _ ((s1.vs.ext e3).set r3)
noncomputable def Km (K:ab) (g:GG) (ε:EE) (f:D->D->D->Hh->R Unit) (t:xA):Prop:=
 ∀α H h o i v x y z Q , aV K g α H h->aL K g α H o x->aL K g α H i y->aL K g α H v z->WQ K g ε α H (f o i v h) (fun _ h'=>∀H' α',Ext K α H α' H'->aV K g α' H' h'->Q H')->t x y z H Q
theorem ym {o i:Expr}{mo mi:ME}{t:xA}{f:D->D->D->Hh->R Unit}{p:Pos} (he:PE X e (tM X.K g ε me)) (ho:PE X o (tM X.K g ε mo)) (hi:PE X i (tM X.K g ε mi)) (hp:CY X t) (im:Km X.K g ε f t)
  (ha:∀v,assign (.Subscript o i p) X.env v=(do
   let ov ← holding [v] (eval o X.env)
   let iv ← holding [v,ov] (eval i X.env)
   standAt p
   holding [v,ov,iv] (setItem ov iv v)
   release [v,ov,iv] []):=by intro _;rfl)
  (hs:swapsWithSole [.Subscript o i p] e pos.line X.env=pure false:=by rfl) (hw:swappedStores [.Subscript o i p] e X.env=pure none:=by rfl)
  (h1:(assignEach [.Subscript o i p] X.env).map (·.2)=[assign (.Subscript o i p) X.env]:=by rfl):PS X (.Assign [.Subscript o i p] e pos) (tMS X.K g ε (jF f mo mi me)):=
 PS.imp (AI he (Fv ho hi hp ha) hs hw h1) fun E σ H ⟨α,env,h,s,w⟩=>tM.use s w.bind fun d1 h1 v1 H1 α1 e1 s1 r1 w1=>tM.use s1 (w1.ext e1).bind fun d2 h2 v2 H2 α2 e2 s2 r2 w2=>tM.use s2 (w2.ext e2).bind fun d3 h3 v3 H3 α3 e3 s3 r3 w3=>by
  refine im α3 H3 h3 d2 d3 d1 v2 v3 v1 _ s3.heap (r2.ext e3) r3 ((r1.ext e2).ext e3) ((w3.ext e3).bind.mono fun _ h4 _ w4 H4 α4 e4 hr4=>?_)
  exact(show cp X.K g α H E (.nx env) h4 from w4) H4 α4 (e1.trans (e2.trans (e3.trans e4))) hr4 _ (s3.vs.ext e4)
end
theorem yW {σ:St} (I:Inv X pins σ H s) (h:H p=some u) (mu:Mut (some u)):∃o,Inv X pins σ (upd H p (.frz o u)) s:=by
 obtain⟨o,ho⟩:∃o,s.heap.get? p=some o:=by
  cases e:s.heap.get? p with
  | some o=>simp
  | none=>
   have q:=I.hok p _ h
   cases u with
   | lst xs=>obtain⟨_,_,_,_,e'⟩:=q;simp_all
   | dK kvs=>obtain⟨_,_,_,_,o,_,_,e',_⟩:=q;simp_all
   | dT kvs=>obtain⟨_,_,_,_,o,_,_,e',_⟩:=q;simp_all
   | set S n=>obtain⟨o,_,_,_,e',_⟩:=q;simp_all
   | ins C dx fs=>obtain⟨_,_,_,e',_⟩:=q;simp_all
   | ext φ=>obtain⟨_,⟨_,e'⟩,_⟩:=q;simp_all
   | _=>exact absurd mu (fun z=>z)
 have nt:∀b xs,H b=some (.tup xs)->b≠p:=fun b xs e z=>by subst z;rw[h] at e;cases e;exact mu
 have nf:∀b o u,H b=some (.frz o u)->b≠p:=fun b o u e z=>by subst z;rw[h] at e;cases e;exact mu
 have nb:∀b ps,H b=some (.tbl ps)->b≠p:=fun b ps e z=>by subst z;rw[h] at e;cases e;exact mu
 have no:∀b y,H b=some (.own y)->b≠p:=fun b ps e z=>by subst z;rw[h] at e;cases e;exact mu
 have hok:HOk X.prog X.w (upd H p (.frz o u)) s.heap:=fun b v q=>by
  by_cases hb:b=p
  ·subst hb
   rw[bp] at q;cases q
   exact⟨ho,(I.hok b _ h).kW (fun _ _ _ z=>z) (fun c z=>by rw[aQ (no c _ z)];exact z) fun c xs z=>by rw[aQ (nt c xs z)];exact z⟩
  ·rw[aQ hb] at q
   exact(I.hok b v q).kW (fun _ _ _ z=>z) (fun c z=>by rw[aQ (no c _ z)];exact z) fun c xs z=>by rw[aQ (nt c xs z)];exact z
 refine⟨o,?_⟩
 have np:∀b,H b=none->b≠p:=fun b e z=>by simp_all
 have:=I.un (t':=s.toks) ⟨fun b o q _ _ _=>q,fun b o q _ _ _=>⟨o.slots,q⟩,fun b v q n _=>(by rw[aQ (np b n)];exact n),fun b o q _=>⟨o,q⟩,fun b xs q=>(by rw[aQ (nt b xs q)];exact q),fun b o v q=>(by rw[aQ (nf b o v q)];exact q),fun b ps q=>⟨#[],by rw[aQ (nb b ps q),q];simp⟩⟩ hok
 omega
noncomputable def g7 (Q:VK):VK:=fun v H=>Q v H\/∃p u,v=.ref p/\H p=some u/\Mut (some u)/\∀o,Q v (upd H p (.frz o u))
theorem EP.frz (h:EP X pins σ (g7 Q) u s'):EP X pins σ Q u s':=by
 obtain⟨v,H',I,r,q | ⟨p,u,rfl,e,m,q⟩⟩:=h
 ·exact⟨v,H',I,r,q⟩
 ·obtain⟨o,I'⟩:=yW I e m
  exact⟨_,_,I',r,q o⟩
theorem PE.frz (h:PE X e t):PE X e fun σ H Q=>t σ H (g7 Q):=fun pins s σ H Q I w=>thn (h pins s σ H _ I w) fun _ _ z=>EP.frz z
theorem OpR.frz (h:OpR X f r):OpR X f fun x y H Q=>r x y H (g7 Q):=fun pins s σ H x y v u Q I rx ry q=>thn (h pins s σ H x y v u _ I rx ry q) fun _ _ z=>EP.frz z
theorem bB.frz (h:bB X f r):bB X f fun xs H Q=>r xs H (g7 Q):=fun pins s σ H xs us Q I rx q=>thn (h pins s σ H xs us _ I rx q) fun _ _ z=>EP.frz z
noncomputable def Iq (D:Ends):Ends:={ D with nx:=fun σ H=>D.nx σ H\/∃p u,H p=some u/\Mut (some u)/\∀o,D.nx σ (upd H p (.frz o u)) }
theorem PS.frz {st:Stmt}{t:TS} (h:PS X st t):PS X st fun E σ H=>t (Iq E) σ H:=fun pins s σ H E I w=>thn (h pins s σ H _ I w) fun fl s' z=>by
 cases fl with
 | next=>
  obtain⟨σ',H',I,q | ⟨p,u,e,m,q⟩⟩:=z
  ·exact⟨σ',H',I,q⟩
  ·obtain⟨o,I'⟩:=yW I e m
   exact⟨σ',_,I',q o⟩
 | brk=>exact z
 | cont=>exact z
 | ret u=>exact z
theorem CQ {σ:St} (z:g7 (fun v H1=>E.nx (σ.set i (some v)) H1) v H1):(Iq E).nx (σ.set i (some v)) H1:=by
 rcases z with z | ⟨p,u,_,e,m,q⟩
 ·exact .inl z
 ·exact .inr ⟨p,u,e,m,q⟩
noncomputable abbrev NL:=List D->Hh->R D
noncomputable def tD:NL:=fun ys h2=>.ok (.ref h2.length) (h2++[O.lst ys])
noncomputable def ay:NL:=fun ys h2=>.ok (.frl ys) h2
class jj (nl:NL):Prop where
 at':∀{K:ab} {g:GG} {ε:EE} {α1 α2:List Addr} {H1 H2:Hp} {h:Hh} {as:List D} {ys:List V} {acc:Addr} {Q:D->Hh->Prop} {R:VK},WQ K g ε α1 H1 (nl as h) Q->(∀d h',Q d h'->aO K g α1 H1 R d h')->Ext K α1 H1 α2 H2->aV K g α2 H2 h->au K g α2 H2 as ys->H2 acc=some (.lst ys)->acc∉α2->H1 acc=none->g7 R (.ref acc) H2
instance:jj tD where
 at':=fun{K g ε α1 α2 H1 H2 h as ys acc Q R} w hq x2 hr2 ra ha hna hacc=>by
  have x3:Ext K α1 H1 (α2++[acc]) H2:=⟨x2.toEx0.trans (Ex0.refl.more _),x2.kept,fun p z n=>by
   rcases N9.mp z with z | z
   ·exact x2.new p z n
   ·rw[Nz.mp z];exact hacc⟩
  refine .inl (hq _ _ w _ H2 (α2++[acc]) x3 (hr2.adopt hna ⟨ys,ha,ra.ex0 (Ex0.refl.more _)⟩) (.ref ?_))
  rw[<- hr2.len,Ny (Ni _)];simp
instance:jj ay where
 at':=fun{K g ε α1 α2 H1 H2 h as ys acc Q R} w hq x2 hr2 ra ha hna hacc=>by
  refine .inr ⟨acc,_,rfl,ha,trivial,fun o=>?_⟩
  have soft:C5 H2 acc:=.inr ⟨_,ha,fun _ z=>(nomatch z),fun _ _ z=>(nomatch z),fun _ z=>nomatch z⟩
  have x6:Ex0 K α2 H2 α2 (upd H2 acc (.frz o (.lst ys))):=Ex0.upd soft
  refine hq _ _ w _ _ α2 ⟨x2.toEx0.trans x6,fun p u z n nt=>?_,x2.new⟩ (hr2.off soft hna) (.frl ⟨o,bp⟩ (ra.ex0 x6))
  rw[aQ (bF z hacc)];exact x2.kept p u z n nt
theorem NL.post [jj nl]{K:ab}{g:GG}{ε:EE}{α:List Addr}{H:Hp}{h:Hh}{ds:List D}{vs:List V}{Q:VK}{p:Addr} (w:WQ K g ε α H (nl ds h) (aO K g α H Q)) (r:aV K g α H h) (rd:au K g α H ds vs) (n:H p=none):g7 Q (.ref p) (upd H p (.lst vs)):=
 jj.at' w (fun _ _ z=>z) (Ext.fresh n) (r.grow n) (rd.ext (Ext.fresh n)) bp (r.free n) n
noncomputable def jd (nl:NL):List D->Hh->R D:=fun ds h=>if ds.length<=1000000 then nl ds h else .bad
theorem Ig {X:Cx}{g:GG}{ε:EE}{es:List Expr}{mr:MA}{pos:Pos}{nl:NL} [jj nl] (ha:PA X es (tMA X.K g ε mr)):PE X (.List es pos) (tM X.K g ε (ah (jd nl) mr)):=
 PE.imp (PE.frz (HN ha)) fun σ H Q ⟨α,env,h,s,w⟩=>tMA.use s w.bind fun d1 h1 v1 H1 α1 e1 s1 r1 w1=>by
  obtain⟨hl,w2⟩:=WQ.dO w1
  exact⟨h8 (by rw[<- r1.length];exact hl),fun p hp=>NL.post (w2.post e1) s1.heap r1 hp⟩
noncomputable def aG (h:Hh) (n:Nat):Option (List D):=match h[n]? with
 | some (.lst ds)=>some ds
 | _=>none
inductive Src where
 | snap (ds:List D)
 | live (n:Nat)
 | liveE (n:Nat)
noncomputable abbrev MI:=En->Hh->R Src
noncomputable abbrev Rdr:=Hh->Nat->Option (Option D)
noncomputable def Src.rdr:Src->Rdr
 | .snap ds=>fun _ i=>some ds[i]?
 | .live n=>fun h i=>(aG h n).map fun ds=>ds[i]?
 | .liveE n=>fun h i=>(aG h n).map fun ds=>(ds[i]?).map fun d=>D.tup [.int i,d]
noncomputable def Src.fuel (s:Src) (h:Hh):Nat:=match s with
 | .snap ds=>ds.length
 | .live n=>((aG h n).getD []).length
 | .liveE n=>((aG h n).getD []).length
noncomputable def Reads (K:ab) (g:GG) (J:It) (rd:Rdr) (α₀:List Addr) (aK:Hp):Prop:=
 ∀α H h , Ext K α₀ aK α H->aV K g α H h->∀i,match rd h i with
  | none=>True
  | some none=>J.stop i H
  | some (some d)=>J.go i H/\∀x H',J.yld i H x H'->∃α',Ext K α H α' H'/\aV K g α' H' h/\aL K g α' H' d x
noncomputable def tMI (K:ab) (g:GG) (ε:EE) (m:MI):TI:=fun σ H T=>∃α env h,cZ K g α H env σ h/\WQ K g ε α H (m env h) fun sr h'=>∀J H' α',Ext K α H α' H'->aV K g α' H' h'->Reads K g J sr.rdr α' H'->T J H'
theorem PI.imp (h:PI X tg e t) (i:∀σ H Q,t' σ H Q->t σ H Q):PI X tg e t':=fun pins s σ H Q I w=>h pins s σ H Q I (i σ H Q w)
noncomputable def k6 (rd:Rdr) (tg:D->En->Hh->R En) (body:MS):Nat->Nat->En->Hh->R Fl
 | k,i,env,h=>match rd h i with
  | none=>.bad
  | some none=>.ok (.nx env) h
  | some (some d)=>match k with
   | 0=>.bad
   | k+1=>(tg d env h).bind fun e1 h1=>(body e1 h1).bind fun fl h2=>match fl with
    | .nx e=>k6 rd tg body k (i+1) e h2
    | .ct e=>k6 rd tg body k (i+1) e h2
    | .bk e=>.ok (.nx e) h2
    | .rt d=>.ok (.rt d) h2
noncomputable def fq (tg:D->En->Hh->R En) (body:MS):List D->En->Hh->R Fl
 | [],env,h=>.ok (.nx env) h
 | d::ds,env,h=>(tg d env h).bind fun e1 h1=>(body e1 h1).bind fun fl h2=>match fl with
  | .nx e=>fq tg body ds e h2
  | .ct e=>fq tg body ds e h2
  | .bk e=>.ok (.nx e) h2
  | .rt d=>.ok (.rt d) h2
theorem Cw (tg:D->En->Hh->R En) (body:MS) (all:List D):∀(ds:List D) (i:Nat) (env:En) (h:Hh),all.drop i=ds->k6 (Src.snap all).rdr tg body ds.length i env h=fq tg body ds env h:=by
 intro ds
 induction ds with
 | nil=>
  intro i env h e
  have:all[i]?=none:=by
   simp_all
  unfold k6 fq Src.rdr
  grind
 | cons d ds ih=>
  intro i env h e
  have h0:all[i]?=some d:=by
   have:=congrArg (fun l=>l[0]?) e
   grind
  have h1:all.drop (i+1)=ds:=by
   have:=congrArg List.tail e
   simpa using this
  unfold k6 fq
  have:(Src.snap all).rdr h i=some (some d):=by unfold Src.rdr;simp[h0]
  simp_all
noncomputable def fC (mi:MI) (tg:D->En->Hh->R En) (body:MS):MS:=fun env h=>(mi env h).bind fun sr h1=>match sr with
 | .snap ds=>fq tg body ds env h1
 | .live n=>k6 (Src.live n).rdr tg body ((aG h1 n).getD []).length 0 env h1
 | .liveE n=>k6 (Src.liveE n).rdr tg body ((aG h1 n).getD []).length 0 env h1
theorem Cy:fC mi tg body env h=(mi env h).bind fun sr h1=>k6 sr.rdr tg body (sr.fuel h1) 0 env h1:=by
 unfold fC
 congr 1
 funext sr h1
 cases sr with
 | snap ds=>exact(Cw tg body ds ds 0 env h1 rfl).symm
 | live n=>rfl
 | liveE n=>rfl
noncomputable def gN (i:Nat):D->En->Hh->R En:=fun d env h=>.ok (env.set i (some d)) h
noncomputable def gT2 (i j:Nat):D->En->Hh->R En:=fun d env h=>match d with
 | .tup [x,y]=>.ok ((env.set i (some x)).set j (some y)) h
 | _=>.bad
noncomputable def Gp (K:ab) (g:GG) (ε:EE) (tg:D->En->Hh->R En) (t:TG):Prop:=
 ∀α H h env σ d x Q , cZ K g α H env σ h->aL K g α H d x →
  WQ K g ε α H (tg d env h) (fun e1 h1=>∀σ' H' α',Ext K α H α' H'->cZ K g α' H' e1 σ' h1->Q σ' H')->t x σ H Q
theorem fA {K:ab}:Gp K g ε (gN i) (iz i):=fun α H h env σ d x Q s r w=>w _ H α Ext.refl ⟨s.heap,s.vs.set r⟩
theorem oz {K:ab}:Gp K g ε (gT2 i j) (Ja K 2 (AL (iz i) (AL (iz j) JV))):=fun α H h env σ d x Q s r w=>by
 cases r with
 | tup hq rs=>
  cases rs with
  | nil=>exact w.elim
  | cons ra rr=>
   cases rr with
   | nil=>exact w.elim
   | cons rb rr=>
    cases rr with
    | nil=>exact⟨_,_,rfl,SqT.of hq,rfl,_,_,rfl,_,_,rfl,rfl,w _ H α Ext.refl ⟨s.heap,(s.vs.set ra).set rb⟩⟩
    | cons _ _=>exact w.elim
 | _=>exact w.elim
section
variable {X:Cx}{g:GG}{ε:EE}
theorem gS {tg iter:Expr}{body:List Stmt}{mi:MI}{t:TG}{fg:D->En->Hh->R En}{mb:MS}{pos:Pos} (hp:SG (model X.prog X.w) X.A X.env X.xe) (hc:X.calm=true) (hi:PI X tg iter (tMI X.K g ε mi)) (hg:PG X tg t) (ig:Gp X.K g ε fg t) (hb:PSs X body (tMS X.K g ε mb))
  (hs:∀x,foldedSetIterable iter X.env x=pure x:=by intro _;rfl):PS X (.For tg iter body [] pos) (tMS X.K g ε (fC mi fg mb)):=by
 refine PS.imp (Il hp hc hi hg hb hs) fun E σ H ⟨α,env,h,s,w⟩=>?_
 rw[Cy] at w
 refine⟨α,env,h,s,w.bind.mono fun sr h1 _ w1 J H1 α1 e1 hr1 rd=>?_⟩
 refine⟨fun i m σ H=>∃α env h,Ext X.K α1 H1 α H/\cZ X.K g α H env σ h/\WQ X.K g ε α H (k6 sr.rdr fg mb m i env h) (cp X.K g α H E),⟨sr.fuel h1,α1,env,h1,Ext.refl,s.ext e1 hr1,w1.yU e1⟩,?_⟩
 rintro i m σ2 H2 ⟨α2,env2,h2,x2,s2,w2⟩
 have q:=rd α2 H2 h2 x2 s2.heap i
 unfold k6 at w2
 cases e:sr.rdr h2 i with
 | none=>rw[e] at w2;exact w2.elim
 | some od=>
  rw[e] at w2 q
  cases od with
  | none=>exact .inl ⟨q,s2.nx Ext.refl w2⟩
  | some d=>
   cases m with
   | zero=>exact w2.elim
   | succ m=>
    have w3:=WQ.bind (show WQ X.K g ε α2 H2 ((fg d env2 h2).bind _) _ from w2)
    refine .inr ⟨q.1,fun σ' H'=>∃α env h,Ext X.K α1 H1 α H'/\cZ X.K g α H' env σ' h/\WQ X.K g ε α H' (k6 sr.rdr fg mb m (i+1) env h) (cp X.K g α H' E),fun σ' H' z=>⟨m,OS _,z⟩,fun x H3 y=>?_⟩
    obtain⟨α3,x3,hr3,rx⟩:=q.2 x H3 y
    refine ig α3 H3 h2 env2 σ2 d x _ (s2.ext x3 hr3) rx ((w3.ext x3).mono fun e4 h4 _ w4 σ4 H4 α4 x4 s4=>?_)
    refine tMS.use s4 ((w4.ext x3).ext x4).bind fun fl h5 H5 α5 x5 hr5 w5=>?_
    have tr:=x3.trans (x4.trans x5)
    cases fl with
    | nx e=>exact fun σ' s'=>⟨α5,e,h5,x2.trans tr,s',((w5.ext x5)).mono fun _ _ _ p=>p.ext tr⟩
    | ct e=>exact fun σ' s'=>⟨α5,e,h5,x2.trans tr,s',((w5.ext x5)).mono fun _ _ _ p=>p.ext tr⟩
    | bk e=>exact fun σ' s'=>(show cp X.K g α2 H2 E (.nx e) h5 from w5) H5 α5 tr hr5 σ' s'.vs
    | rt d=>exact fun v rv=>(show cp X.K g α2 H2 E (.rt d) h5 from w5) H5 α5 tr hr5 v rv
theorem aV.lst {K:ab}{α:List Addr}{H:Hp}{h:Hh}{n:Nat}{ds:List D} (r:aV K g α H h) (e:aG h n=some ds){p:Addr} (hp:α[n]?=some p):∃vs,H p=some (.lst vs)/\au K g α H ds vs:=by
 unfold aG at e
 cases o:h[n]? with
 | none=>simp_all
 | some o'=>
  rw[o] at e
  have q:=r.here n p o' hp o
  cases o' with
  | lst ds'=>cases e;assumption
  | set n=>cases e
  | dic k=>cases e
  | dit k=>cases e
noncomputable def xn:D->Hh->R Src
 | .tup ds,h=>.ok (.snap ds) h
 | .frl ds,h=>.ok (.snap ds) h
 | .scr ds,h=>.ok (.snap ds) h
 | .ref n,h=>match aG h n with
  | some _=>.ok (.live n) h
  | none=>.bad
 | _,_=>.bad
noncomputable def df (a:ME):MI:=fun env h=>(a env h).bind xn
noncomputable def L1 (K:ab) (tl:TE):TI:=fun σ H R=>tl σ H fun x H1=>∃a,x=.ref a/\(((∃xs,SqL K H1 a xs)/\R (Itl K a) H1)\/((∃xs,SqT K H1 a xs)/\R (Itt K a) H1))
theorem F9 {tg l:Expr}{tl:TE} (hl:PE X l tl):PI X tg l (L1 X.K tl):=by
 intro pins s σ H R I h
 refine thn (hl pins s σ H _ I h) fun v s1 ⟨x,H1,I1,r1,q1⟩=>?_
 obtain⟨a,e,q⟩:=q1
 subst e
 cases r1
 rcases q with⟨⟨xs,hq⟩,q⟩ | ⟨⟨xs,hq⟩,q⟩
 ·obtain⟨its,rv,p,hz⟩:=I1.list hq
  refine RH p.isList ?_
  refine⟨s1.heap.objs.size,[s1.heap.objs.size],_,_,H1,rfl,I1.kept fun b o e=>k3 _ e,zG a _,⟨_,Nm _ rfl,rfl,rfl⟩,fun b hb=>?_,q⟩
  have e:b=s1.heap.objs.size:=by simp_all
  subst e
  exact I1.Dt (Ni _) (I1.hok.fresh (Ni _))
 ·obtain⟨its,rv,p,hz⟩:=I1.tuple hq
  refine PN (show s1.heap.IsTuple a its.toArray from p) ?_
  refine⟨s1.heap.objs.size,[s1.heap.objs.size],_,_,H1,rfl,I1.kept fun b o e=>k3 _ e,vZ a _,⟨_,Nm _ rfl,rfl,rfl⟩,fun b hb=>?_,q⟩
  have e:b=s1.heap.objs.size:=by simp_all
  subst e
  exact I1.Dt (Ni _) (I1.hok.fresh (Ni _))
theorem zP {K:ab} (hq':H a=some (.tup vs)) (rs:au K g α H ds vs):Reads K g (Itt K a) (Src.snap ds).rdr α H:=by
 intro α2 H2 h2 x2 hr i
 have hq2:SqT K H2 a vs:=SqT.of (x2.tup _ _ hq')
 have rs2:=rs.ext x2
 show match some ds[i]? with | none=>True | some none=>_ | some (some d)=>_
 cases e:ds[i]? with
 | none=>
  have:ds.length<=i:=OA.mp e
  exact⟨vs,hq2,by rw[<- rs.length];lia⟩
 | some d=>
  obtain⟨v,ev,rv⟩:=rs2.get e
  refine⟨⟨vs,v,hq2,ev⟩,fun x H' y=>?_⟩
  obtain⟨e1,e2⟩:=y
  subst e1
  have:=e2 vs hq2
  rw[ev] at this
  cases this
  exact⟨α2,Ext.refl,hr,rv⟩
theorem qF {K:ab} (hq:Fro K H a vs) (rs:au K g α H ds vs):Reads K g (Itl K a) (Src.snap ds).rdr α H:=by
 intro α2 H2 h2 x2 hr i
 have hq2:=x2.fro _ _ hq
 have rs2:=rs.ext x2
 show match some ds[i]? with | none=>True | some none=>_ | some (some d)=>_
 cases e:ds[i]? with
 | none=>
  have:ds.length<=i:=OA.mp e
  exact⟨vs,hq2.sq,by rw[<- rs.length];lia⟩
 | some d=>
  obtain⟨v,ev,rv⟩:=rs2.get e
  refine⟨⟨vs,v,hq2.sq,ev⟩,fun x H' y=>?_⟩
  obtain⟨e1,e2⟩:=y
  subst e1
  have:=e2 vs hq2.sq
  rw[ev] at this
  cases this
  exact⟨α2,Ext.refl,hr,rv⟩
theorem zk {K:ab} (ha:α[n]?=some a):Reads K g (Itl K a) (Src.live n).rdr α H:=by
 intro α2 H2 h2 x2 hr i
 show match (aG h2 n).map fun ds=>ds[i]? with | none=>True | some none=>_ | some (some d)=>_
 cases e:aG h2 n with
 | none=>trivial
 | some ds=>
  obtain⟨vs,hq',rs⟩:=hr.lst e (x2.get ha)
  have hq:SqL K H2 a vs:=SqL.of hq'
  show match some ds[i]? with | none=>True | some none=>_ | some (some d)=>_
  cases ei:ds[i]? with
  | none=>
   have:ds.length<=i:=OA.mp ei
   exact⟨vs,hq,by rw[<- rs.length];lia⟩
  | some d=>
   obtain⟨v,ev,rv⟩:=rs.get ei
   refine⟨⟨vs,v,hq,ev⟩,fun x H' y=>?_⟩
   obtain⟨e1,e2⟩:=y
   subst e1
   have:=e2 vs hq
   rw[ev] at this
   cases this
   exact⟨α2,Ext.refl,hr,rv⟩
theorem dZ {tg e:Expr}{me:ME} (he:PE X e (tM X.K g ε me)):PI X tg e (tMI X.K g ε (df me)):=
 PI.imp (F9 he) fun σ H T ⟨α,env,h,s,w⟩=>tM.use s w.bind fun d1 h1 v1 H1 α1 e1 s1 r1 w1=>by
  unfold xn at w1
  cases r1 with
  | tup hq rs=>exact⟨_,rfl,.inr ⟨⟨_,SqT.of hq⟩,w1 _ H1 α1 e1 s1.heap (zP hq rs)⟩⟩
  | frl hq rs=>exact⟨_,rfl,.inl ⟨⟨_,hq.sq⟩,w1 _ H1 α1 e1 s1.heap (qF hq.fro rs)⟩⟩
  | scr hq rs=>exact⟨_,rfl,.inl ⟨⟨_,hq.sq⟩,w1 _ H1 α1 e1 s1.heap (qF hq rs)⟩⟩
  | @ref n p hp=>
   cases el:aG h1 n with
   | none=>simp only[el] at w1;exact w1.elim
   | some ds=>
    simp only[el] at w1
    obtain⟨vs,hq,_⟩:=s1.heap.lst el hp
    exact⟨p,rfl,.inl ⟨⟨_,SqL.of hq⟩,w1 _ H1 α1 e1 s1.heap (zk hp)⟩⟩
  | _=>exact w1.elim
noncomputable def gO (ds:List D):List D:=(Nj ds.length).map fun(i:Nat)=>D.tup [.int i,ds.getD i .non]
noncomputable def uE:D->Hh->R Src
 | .tup ds,h=>.ok (.snap (gO ds)) h
 | .frl ds,h=>.ok (.snap (gO ds)) h
 | .ref n,h=>match aG h n with
  | some _=>.ok (.liveE n) h
  | none=>.bad
 | _,_=>.bad
noncomputable def iG (a:ME):MI:=fun env h=>(a env h).bind uE
theorem qN {ds:List D}{i:Nat}:(gO ds)[i]?=(ds[i]?).map fun d=>D.tup [.int i,d]:=by
 unfold gO
 rw[NN]
 by_cases hi:i<ds.length
 ·have e:ds.getD i .non=ds[i]:=by rw[Pj,Np hi];rfl
  rw[List.getElem?_range hi,Np hi,RU,RU,e]
 ·rw[OJ (by simpa using hi),OJ (by lia)];rfl
theorem nU {K:ab}{i:Nat} (hr:aV K g α H h) (rv:aL K g α H d v) (hp:H p=none) :
  ∃α',Ext K α H α' (upd H p (.tup [.int i,v]))/\aV K g α' (upd H p (.tup [.int i,v])) h/\aL K g α' (upd H p (.tup [.int i,v])) (.tup [.int i,d]) (.ref p):=
 ⟨α,Ext.fresh hp,hr.grow hp,.tup bp (.cons (.int _) (.cons (rv.ext (Ext.fresh hp)) .nil))⟩
theorem vf {K:ab} (hq':H a=some (.tup vs)) (rs:au K g α H ds vs):Reads K g (Iet K a) (Src.snap (gO ds)).rdr α H:=by
 intro α2 H2 h2 x2 hr i
 have hq2:SqT K H2 a vs:=SqT.of (x2.tup _ _ hq')
 have rs2:=rs.ext x2
 show match some (gO ds)[i]? with | none=>True | some none=>_ | some (some d)=>_
 rw[qN]
 cases e:ds[i]? with
 | none=>
  have:ds.length<=i:=OA.mp e
  exact⟨vs,hq2,by rw[<- rs.length];lia⟩
 | some d=>
  obtain⟨v,ev,rv⟩:=rs2.get e
  refine⟨⟨vs,v,hq2,ev⟩,fun x H' y=>?_⟩
  obtain⟨p,v',e1,hp,e2,e3⟩:=y
  subst e1 e3
  have:=e2 vs hq2
  rw[ev] at this
  cases this
  exact nU hr rv hp
theorem tS {K:ab} (hq:Fro K H a vs) (rs:au K g α H ds vs):Reads K g (Iel K a) (Src.snap (gO ds)).rdr α H:=by
 intro α2 H2 h2 x2 hr i
 have hq2:=(x2.fro _ _ hq).sq
 have rs2:=rs.ext x2
 show match some (gO ds)[i]? with | none=>True | some none=>_ | some (some d)=>_
 rw[qN]
 cases e:ds[i]? with
 | none=>
  have:ds.length<=i:=OA.mp e
  exact⟨vs,hq2,by rw[<- rs.length];lia⟩
 | some d=>
  obtain⟨v,ev,rv⟩:=rs2.get e
  refine⟨⟨vs,v,hq2,ev⟩,fun x H' y=>?_⟩
  obtain⟨p,v',e1,hp,e2,e3⟩:=y
  subst e1 e3
  have:=e2 vs hq2
  rw[ev] at this
  cases this
  exact nU hr rv hp
theorem tV {K:ab} (ha:α[n]?=some a):Reads K g (Iel K a) (Src.liveE n).rdr α H:=by
 intro α2 H2 h2 x2 hr i
 show match (aG h2 n).map fun ds=>(ds[i]?).map fun d=>D.tup [.int i,d] with | none=>True | some none=>_ | some (some d)=>_
 cases e:aG h2 n with
 | none=>trivial
 | some ds=>
  obtain⟨vs,hq',rs⟩:=hr.lst e (x2.get ha)
  have hq:SqL K H2 a vs:=SqL.of hq'
  show match some ((ds[i]?).map fun d=>D.tup [.int i,d]) with | none=>True | some none=>_ | some (some d)=>_
  cases ei:ds[i]? with
  | none=>
   have:ds.length<=i:=OA.mp ei
   exact⟨vs,hq,by rw[<- rs.length];lia⟩
  | some d=>
   obtain⟨v,ev,rv⟩:=rs.get ei
   refine⟨⟨vs,v,hq,ev⟩,fun x H' y=>?_⟩
   obtain⟨p,v',e1,hp,e2,e3⟩:=y
   subst e1 e3
   have:=e2 vs hq
   rw[ev] at this
   cases this
   exact nU hr rv hp
theorem mU {elts:List Expr}{kt:Nat}{tp p pos:Pos}{e:Expr}{me:ME} (hg:Gl X "enumerate") (hm:X.mg "enumerate" = none) (he:PE X e (tM X.K g ε me)) (hs:starEach [e] X.env=[(false,eval e X.env)]:=by rfl):PI X (.Tuple elts kt tp) (.Call (.Name "enumerate" p) [e] [] pos) (tMI X.K g ε (iG me)):=
 PI.imp (Ea hg hm he hs) fun σ H T ⟨α,env,h,s,w⟩=>tM.use s w.bind fun d1 h1 v1 H1 α1 e1 s1 r1 w1=>by
  unfold uE at w1
  cases r1 with
  | tup hq rs=>exact⟨_,rfl,.inr ⟨⟨_,SqT.of hq⟩,w1 _ H1 α1 e1 s1.heap (vf hq rs)⟩⟩
  | frl hq rs=>exact⟨_,rfl,.inl ⟨⟨_,hq.sq⟩,w1 _ H1 α1 e1 s1.heap (tS hq.fro rs)⟩⟩
  | @ref n p hp=>
   cases el:aG h1 n with
   | none=>simp only[el] at w1;exact w1.elim
   | some ds=>
    simp only[el] at w1
    obtain⟨vs,hq,_⟩:=s1.heap.lst el hp
    exact⟨p,rfl,.inl ⟨⟨_,SqL.of hq⟩,w1 _ H1 α1 e1 s1.heap (tV hp)⟩⟩
  | _=>exact w1.elim
noncomputable def b7 (lo:Int) (n:Nat):List D:=(Nj n).map fun(i:Nat)=>D.int (lo+i)
noncomputable def jg:List D->Hh->R Src
 | [.int j],h=>if j.natAbs<=1000000 then .ok (.snap (b7 0 j.toNat)) h else .bad
 | _,_=>.bad
noncomputable def D1:List D->Hh->R Src
 | [.int i,.int j],h=>if i.natAbs<=1000000/\j.natAbs<=1000000 then .ok (.snap (b7 i (j - i).toNat)) h else .bad
 | _,_=>.bad
noncomputable def iD (f:List D->Hh->R Src) (a:MA):MI:=fun env h=>(a env h).bind f
theorem qC {K:ab}{lo:Int}:Reads K g (Itr lo n) (Src.snap (b7 lo n)).rdr α H:=by
 intro α2 H2 h2 x2 hr i
 show match some (b7 lo n)[i]? with | none=>True | some none=>_ | some (some d)=>_
 unfold b7
 rw[NN]
 by_cases hi:i<n
 ·rw[List.getElem?_range hi]
  refine⟨hi,fun x H' y=>?_⟩
  obtain⟨e1,e2⟩:=y
  subst e1 e2
  exact⟨α2,Ext.refl,hr,.int _⟩
 ·rw[OJ (by simp_all)]
  exact Nat.le_of_not_lt hi
theorem eG {tg a:Expr}{ma:MA}{p pos:Pos} (hg:Gl X "range") (hm:X.mg "range" = none) (ha:PA X [a] (tMA X.K g ε ma)) (hs:starEach [a] X.env=[(false,eval a X.env)]:=by rfl):PI X tg (.Call (.Name "range" p) [a] [] pos) (tMI X.K g ε (iD jg ma)):=
 PI.imp (zc hg hm ha hs) fun σ H T ⟨α,env,h,s,w⟩=>tMA.use s w.bind fun d1 h1 v1 H1 α1 e1 s1 r1 w1=>by
  cases r1 with
  | nil=>exact w1.elim
  | cons ra rr=>
   cases rr with
   | cons _ _=>cases ra<;>exact w1.elim
   | nil=>
    cases ra with
    | int j=>
     obtain⟨hj,w2⟩:=WQ.dO w1
     exact⟨j,rfl,by lia,by lia,w2 _ H1 α1 e1 s1.heap qC⟩
    | _=>exact w1.elim
theorem yD {tg a b:Expr}{ma:MA}{p pos:Pos} (hg:Gl X "range") (hm:X.mg "range" = none) (ha:PA X [a,b] (tMA X.K g ε ma)) (hs:starEach [a,b] X.env=[(false,eval a X.env),(false,eval b X.env)]:=by rfl) (hs2:starEach [b] X.env=[(false,eval b X.env)]:=by rfl):PI X tg (.Call (.Name "range" p) [a,b] [] pos) (tMI X.K g ε (iD D1 ma)):=
 PI.imp (zI hg hm ha hs hs2) fun σ H T ⟨α,env,h,s,w⟩=>tMA.use s w.bind fun d1 h1 v1 H1 α1 e1 s1 r1 w1=>by
  unfold D1 at w1
  split at w1
  ·cases r1 with
   | cons ra rr=>
    cases ra
    cases rr with
    | cons rb rr=>
     cases rb
     cases rr
     obtain⟨hj,w2⟩:=WQ.dO w1
     exact⟨_,_,rfl,⟨by lia,by lia,by lia,by lia⟩,w2 _ H1 α1 e1 s1.heap qC⟩
  ·exact w1.elim
noncomputable def nG (c:MT) (b:MS):Nat->En->Hh->R Fl
 | 0,_,_=>.bad
 | k+1,env,h=>(c env h).bind fun x h1=>if x=true then (b env h1).bind fun fl h2=>match fl with
   | .nx e=>nG c b k e h2
   | .ct e=>nG c b k e h2
   | .bk e=>.ok (.nx e) h2
   | .rt d=>.ok (.rt d) h2
  else .ok (.nx env) h1
noncomputable def Cq (fuel:Nat) (c:MT) (b:MS):MS:=fun env h=>nG c b fuel env h
theorem Ec {c:Expr}{body:List Stmt}{mc:MT}{mb:MS}{pos:Pos} (fuel:Nat) (hp:SG (model X.prog X.w) X.A X.env X.xe) (hc:PT X c (tMT X.K g ε mc)) (hb:PSs X body (tMS X.K g ε mb)):PS X (.While c body [] pos) (tMS X.K g ε (Cq fuel mc mb)):=by
 refine PS.imp (BC hp hc hb) fun E σ H ⟨α,env,h,s,w⟩=>?_
 refine⟨fun m σ H=>∃α env h,cZ X.K g α H env σ h/\WQ X.K g ε α H (nG mc mb m env h) (cp X.K g α H E),⟨fuel,α,env,h,s,w⟩,?_⟩
 rintro m σ2 H2 ⟨α2,env2,h2,s2,w2⟩
 cases m with
 | zero=>exact w2.elim
 | succ m=>
  refine tMT.use s2 (WQ.bind (show WQ X.K g ε α2 H2 ((mc env2 h2).bind _) _ from w2)) fun b h3 H3 α3 x3 s3 w3=>?_
  cases b with
  | false=>rw[if_neg NK] at w3 ⊢;exact s3.nx x3 w3
  | true=>
   refine⟨fun σ' H'=>∃α env h,cZ X.K g α H' env σ' h/\WQ X.K g ε α H' (nG mc mb m env h) (cp X.K g α H' E),fun σ' H' z=>⟨m,OS _,z⟩,?_⟩
   refine tMS.use s3 (w3.ext x3).bind fun fl h5 H5 α5 x5 hr5 w5=>?_
   have tr:=x3.trans x5
   cases fl with
   | nx e=>exact fun σ' s'=>⟨α5,e,h5,s',(w5.ext x5).mono fun _ _ _ p=>p.ext tr⟩
   | ct e=>exact fun σ' s'=>⟨α5,e,h5,s',(w5.ext x5).mono fun _ _ _ p=>p.ext tr⟩
   | bk e=>exact fun σ' s'=>(show cp X.K g α2 H2 E (.nx e) h5 from w5) H5 α5 tr hr5 σ' s'.vs
   | rt d=>exact fun v rv=>(show cp X.K g α2 H2 E (.rt d) h5 from w5) H5 α5 tr hr5 v rv
end
noncomputable abbrev E00:EE:=fun _ _ _=>False
noncomputable abbrev MF:=List D->Hh->R D
noncomputable def bN (n:Nat) (m:MS):MF:=fun ds h=>(m (ds.map some++NS (n - ds.length) none) h).bind fun fl h1=>match fl with
 | .rt d=>.ok d h1
 | .nx _=>.ok .non h1
 | _=>.bad
noncomputable def spG (K:ab) (g:GG) (ε:XK->EE) (np:Nat) (m:MF):Sp:=fun vs H Q E=>vs.length=np/\∃α ds h,au K g α H ds vs/\aV K g α H h/\WQ K g (ε E) α H (m ds h) (aO K g α H Q)
noncomputable abbrev spM (K:ab) (g:GG) (np:Nat) (m:MF):Sp:=spG K g (fun _=>E00) np m
theorem qI {K:ab}{g:GG}{α:List Addr}{H:Hp}{N:List Str}{ds:List D}{vs:List V} (r:au K g α H ds vs):jh K g α H (ds.map some++NS (N.length - ds.length) none) (start N vs):=by
 have hl:=r.length
 refine⟨by simp[start,hl],fun i d h=>?_⟩
 by_cases hi:i<ds.length
 ·rw[Nq (by simpa using hi),NN] at h
  cases e:ds[i]? with
  | none=>rw[e] at h;cases h
  | some d'=>
   rw[e] at h
   cases h
   obtain⟨v,ev,rv⟩:=r.get e
   refine⟨v,?_,rv⟩
   unfold start
   rw[Nq (by simp;lia),NN,ev]
   rfl
 ·rw[Ny (by simpa using hi),PJ] at h
  split at h<;>cases h
section
variable {P:NC}{w:N4}{K:ab}{mg:Str->Option Ng}{base:Heap}{g:GG}
theorem nE {st:Stmt} (F:Fun K x qual st f fd) (S:aA N ps (ak st))
  (hb:∀cdv A outer s H E , eJ k (A.deeper (envOfC qual (ak st) s.heap.objs.size f cdv)) →
   PSs (jJ CX0 P w K mg base N qual (ak st) f cdv A outer s H E).nox (b8 st) (tMS K g E00 mb)):dJ P w K mg base CX0 (k+1) f fd ps (spM K g ps.length (bN N.length mb)):=by
 refine F.ok S (fun vs H Q E h=>h.1) fun cdv A outer s H vs Q E hr h=>⟨_,hb cdv A outer s H E hr,?_⟩
 obtain⟨hl,α,ds,h,rs,hh,w⟩:=h
 refine tMS.use ⟨hh,qI rs⟩ w.bind fun fl h' H' α' e r kk=>?_
 cases fl with
 | nx e'=>exact fun σ' s'=>(show aO K g α H Q .non h' from kk) _ H' α' e r .non
 | bk e'=>exact kk.elim
 | ct e'=>exact kk.elim
 | rt d=>exact fun v rv=>(show aO K g α H Q d h' from kk) _ H' α' e r rv
end
section
variable {X:Cx}{g:GG}
theorem cF {k:Nat}{f:Addr}{fd:Qr}{ps:List Str}{m:MF}{np:Nat}{x:Str}{p pos:Pos}{e:Expr}{es:List Expr}{mr:MA} (F:dJ X.prog X.w X.K X.mg X.base CX0 k f fd ps (spM X.K g np m)) (hr:eJ k X.A) (hg:Gl X x) (hm:X.mg x=some (.ref f)) (hk:Oy X.K (.ref f)=true) (hb:Binds X.K fd ps [])
  (ha:PA X (e::es) (tMA X.K g E00 mr)) (hlen:∀env h ds h',mr env h=.ok ds h'->ds.length=np) (hdb:(x == ("__debug__" : Str))=false:=by decide) (he:starEach (e::es) X.env=(false,eval e X.env)::starEach es X.env:=by rfl) (hpl:(backTo pos (starEach es X.env)).any (·.1)=false:=by rfl) :
  PE X (.Call (.Name x p) (e::es) [] pos) (tM X.K g E00 (ah m mr)):=
 PE.imp (CO F hr hg hm hk hb .nil Jq ha hdb he hpl) fun σ H Q ⟨α,env,h,s,w⟩=>⟨α,env,h,s,w.bind.mono fun d1 h1 eq w1 v1 H1 α1 e1 hr1 r1=>by
  show spM X.K g np m (v1++[]) H1 Q E0
  rw[PU]
  refine⟨?_,α1,d1,h1,r1,hr1,w1.post e1⟩
  rw[<- r1.length]
  grind⟩
theorem ao:∀env h ds h',aj env h=.ok ds h'->ds.length=0:=fun env h ds h' e=>by cases e;rfl
theorem ag {a:ME}{r:MA}{n:Nat} (q:∀env h ds h',r env h=.ok ds h'->ds.length=n):∀env h ds h',ae a r env h=.ok ds h'->ds.length=n+1:=fun env h ds h' e=>by
 unfold ae at e
 cases e1:a env h with
 | ok d h1=>
  rw[e1] at e
  cases e2:r env h1 with
  | ok ds2 h2=>
   have e3:(R.ok (d::ds2) h2:R (List D))=.ok ds h':=by simpa [R.bind,e2] using e
   grind
  | err x h2=>simp[R.bind,e2] at e
  | bad=>simp[R.bind,e2] at e
 | err x h2=>rw[e1] at e;cases e
 | bad=>rw[e1] at e;cases e
end
noncomputable def kE (ix:List Nat) (env:En) (d:D):En:=some d::ix.map fun i=>(env[i]?).join
noncomputable def tt1:MT:=fun _ h=>.ok true h
noncomputable def iw (rd:Rdr) (tt:MT) (te:ME) (ee:D->En):Nat->Nat->List D->Hh->R (List D)
 | k,i,acc,h=>match rd h i with
  | none=>.bad
  | some none=>.ok acc h
  | some (some d)=>match k with
   | 0=>.bad
   | k+1=>(tt (ee d) h).bind fun b h1=>if b=true then (te (ee d) h1).bind fun y h2=>iw rd tt te ee k (i+1) (acc++[y]) h2 else iw rd tt te ee k (i+1) acc h1
noncomputable def cM (tt:MT) (te:ME) (ee:D->En):List D->Hh->R (List D)
 | [],h=>.ok [] h
 | d::ds,h=>(tt (ee d) h).bind fun b h1=>if b=true then (te (ee d) h1).bind fun y h2=>(cM tt te ee ds h2).bind fun ys h3=>.ok (y::ys) h3 else cM tt te ee ds h1
theorem cB (r:R β) (f) (k:γ->Hh->R δ):(r.bind f).bind k=r.bind fun b h=>(f b h).bind k:=by cases r<;>rfl
theorem AK (tt:MT) (te:ME) (ee:D->En) (all:List D):∀(ds:List D) (i:Nat) (acc:List D) (h:Hh),all.drop i=ds->iw (Src.snap all).rdr tt te ee ds.length i acc h=(cM tt te ee ds h).bind fun ys h'=>.ok (acc++ys) h':=by
 intro ds
 induction ds with
 | nil=>
  intro i acc h e
  have:all[i]?=none:=by
   simp_all
  unfold iw cM Src.rdr
  simp[this,R.bind]
 | cons d ds ih=>
  intro i acc h e
  have h0:all[i]?=some d:=by
   have:=congrArg (fun l=>l[0]?) e
   grind
  have h1:all.drop (i+1)=ds:=by
   have:=congrArg List.tail e
   simpa using this
  unfold iw cM
  have:(Src.snap all).rdr h i=some (some d):=by unfold Src.rdr;simp[h0]
  rw[this]
  show((tt (ee d) h).bind _)=_
  rw[cB]
  congr 1
  funext b h2
  cases b with
  | false=>simp_all
  | true=>
   rw[if_pos rfl,if_pos rfl,cB]
   congr 1
   funext y h3
   rw[cB]
   have:=ih (i+1) (acc++[y]) h3 h1
   rw[this]
   congr 1
   funext ys h4
   show R.ok (acc++[y]++ys) h4=R.ok (acc++(y::ys)) h4
   simp
noncomputable def cN (nl:NL) (mi:MI) (ix:List Nat) (tt:MT) (te:ME):ME:=fun env h=>(mi env h).bind fun sr h1=>if sr.fuel h1<=1000000 then
 (match sr with
  | .snap ds=>cM tt te (kE ix env) ds h1
  | .live n=>iw (Src.live n).rdr tt te (kE ix env) ((aG h1 n).getD []).length 0 [] h1
  | .liveE n=>iw (Src.liveE n).rdr tt te (kE ix env) ((aG h1 n).getD []).length 0 [] h1).bind nl else .bad
theorem Cj:cN nl mi ix tt te env h=(mi env h).bind fun sr h1=>if sr.fuel h1<=1000000 then (iw sr.rdr tt te (kE ix env) (sr.fuel h1) 0 [] h1).bind nl else .bad:=by
 unfold cN
 congr 1
 funext sr h1
 cases sr with
 | snap ds=>
  have:=AK tt te (kE ix env) ds ds 0 [] h1 rfl
  have e:(Src.snap ds).fuel h1=ds.length:=rfl
  rw[e,this,cB]
  rfl
 | live n=>rfl
 | liveE n=>rfl
theorem DJ {K:ab}{g:GG}{α:List Addr}{H:Hp}{env:En}{σ:St}{ix:List Nat}{d:D}{v:V} (s:jh K g α H env σ) (r:aL K g α H d v):jh K g α H (kE ix env d) ((vJ ix σ).set 0 (some v)):=by
 refine⟨by simp[kE,vJ],fun i e h=>?_⟩
 cases i with
 | zero=>
  have:d=e:=by simpa [kE] using h
  subst this
  exact⟨v,by rfl,r⟩
 | succ i=>
  have h':(ix.map fun i=>(env[i]?).join)[i]?=some (some e):=by assumption
  rw[NN] at h'
  cases ei:ix[i]? with
  | none=>simp_all
  | some j=>
   rw[ei] at h'
   have h2:(env[j]?).join=some e:=by simp_all
   cases ej:env[j]? with
   | none=>simp_all
   | some oe=>
    rw[ej] at h2
    have h3:oe=some e:=by simp_all
    subst h3
    obtain⟨u,eu,ru⟩:=s.vars j e ej
    refine⟨u,?_,ru⟩
    simp only[vJ,List.set_cons_zero,List.getElem?_cons_succ,NN,ei,RU,eu]
    rfl
section
variable {X:Cx}{g:GG}
theorem iU:PTs X [] (tMT X.K g E00 tt1):=fun pins s σ H Q I ⟨α,env,h,s',w⟩=>C9 pins s σ H Q I (w H α Ext.refl s'.heap)
theorem kU {mt:MT} (h:PT X c (tMT X.K g E00 mt)):PTs X [c] (tMT X.K g E00 mt):=Di h
theorem uA {K:ab}{nl:NL} [jj nl]{mi:MI}{tt:MT}{te:ME}{ix:List Nat}{σ:St}{H:Hp}{Q R:VK} (hR:∀v H,g7 Q v H->R v H) (t:tM K g E00 (cN nl mi ix tt te) σ H Q):EJ (tMI K g E00 mi) ix (tMT K g E00 tt) (tM K g E00 te) σ H R:=by
 obtain⟨α,env,h,s,w⟩:=t
 rw[Cj] at w
 refine⟨α,env,h,s,w.bind.mono fun sr h1 _ w1 J H1 α1 e1 hr1 rd=>fun acc hacc=>?_⟩
 obtain⟨hf,w1⟩:=WQ.dO w1
 have s1:=s.ext e1 hr1
 refine⟨fun i m ys H=>∃α h as,Ext K α1 H1 α H/\aV K g α H h/\au K g α H as ys/\H acc=some (.lst ys)/\acc∉α/\as.length+m<=1000000 ∧
  WQ K g E00 α1 H1 ((iw sr.rdr tt te (kE ix env) m i as h).bind nl) (aO K g α1 H1 Q),
  ⟨sr.fuel h1,α1,h1,[],Ext.fresh hacc,hr1.grow hacc,.nil,bp,hr1.free hacc,by simp_all,w1.post e1⟩,?_⟩
 rintro i m ys H2 ⟨α2,h2,as,x2,hr2,ra,ha,hna,hm,w2⟩
 have q:=rd α2 H2 h2 x2 hr2 i
 unfold iw at w2
 cases e:sr.rdr h2 i with
 | none=>rw[e] at w2;exact w2.elim
 | some od=>
  rw[e] at w2 q
  cases od with
  | none=>
   refine .inl ⟨q,?_⟩
   exact hR _ _ <| jj.at' (show WQ K g E00 α1 H1 (nl as h2) _ from w2) (fun _ _ z=>z) x2 hr2 ra ha hna hacc
  | some d=>
   cases m with
   | zero=>exact w2.elim
   | succ m=>
    rw[cB] at w2
    have w3:=WQ.bind (show WQ K g E00 α1 H1 ((tt (kE ix env d) h2).bind _) _ from w2)
    refine .inr ⟨q.1,fun x H3 y=>?_⟩
    obtain⟨α3,x3,hr3,rx⟩:=q.2 x H3 y
    have ha3:=x3.keep _ _ ha hna
    have hna3:acc∉α3:=fun z=>by have:=x3.new _ z hna;simp_all
    have s3:cZ K g α3 H3 (kE ix env d) ((vJ ix σ).set 0 (some x)) h2:=⟨hr3,DJ (s1.vs.ext (x2.trans x3)) rx⟩
    refine tMT.use s3 ((w3.ext x2).ext x3) fun b h4 H4 α4 x4 s4 w4=>?_
    have ha4:=x4.keep _ _ ha3 hna3
    have hna4:acc∉α4:=fun z=>by have:=x4.new _ z hna3;simp_all
    cases b with
    | false=>
     exact⟨m,OS _,α4,h4,as,x2.trans (x3.trans x4),s4.heap,ra.ext (x3.trans x4),ha4,hna4,by lia,w4⟩
    | true=>
     rw[if_pos rfl] at w4 ⊢
     rw[cB] at w4
     refine tM.use s4 (((WQ.bind w4).ext x2).ext (x3.trans x4)) fun y h5 v5 H5 α5 x5 s5 r5 w5=>?_
     have ha5:=x5.keep _ _ ha4 hna4
     have hna5:acc∉α5:=fun z=>by have:=x5.new _ z hna4;simp_all
     have soft:C5 H5 acc:=.inr ⟨_,ha5,fun _ z=>(nomatch z),fun _ _ z=>(nomatch z),fun _ z=>nomatch z⟩
     have x6:Ex0 K α5 H5 α5 (upd H5 acc (.lst (ys++[v5]))):=Ex0.upd soft
     have tr:=x2.trans (x3.trans (x4.trans x5))
     refine⟨ha5,?_,m,OS _,α5,h5,as++[y],⟨tr.toEx0.trans x6,fun p o z n nt=>?_,tr.new⟩,s5.heap.off soft hna5,((ra.ext (x3.trans (x4.trans x5))).append (.cons r5 .nil)).ex0 x6,bp,hna5,by grind,w5⟩
     ·rw[<- ra.length,Oi];lia
     ·rw[aQ (bF z hacc)];exact tr.kept p o z n nt
end
noncomputable def sml (i:Int):Bool:=decide (i.natAbs<2 ^ 1900)
theorem iK (h:sml i=true):Qk i<=1900:=by
 have h':=of_decide_eq_true h
 unfold Qk
 split
 ·lia
 ·rename_i z
  have z':i.natAbs≠0:=by
   simp_all
  have:=(Nat.log2_lt z').mpr h'
  lia
theorem Eu (h:sml i=true):i.natAbs.log2<1900:=by
 have h':=of_decide_eq_true h
 by_cases z:i.natAbs=0
 ·simp_all
 ·exact(Nat.log2_lt z).mpr h'
theorem Fe (h:i.natAbs<=10 ^ 560):sml i=true:=by
 refine decide_eq_true (Nat.lt_of_le_of_lt h (by lia))
section
variable {X:Cx}{K:ab}{g:GG}{ε:EE}
theorem OpR.or (h:OpR X f r) (h':OpR X f r'):OpR X f (fun x y H Q=>r x y H Q\/r' x y H Q):=fun pins s σ H x y v u Q I rx ry q=>q.elim (h pins s σ H x y v u Q I rx ry) (h' pins s σ H x y v u Q I rx ry)
noncomputable def kS (d:D) (h:Hh):Option (List D):=match d with
 | .frl ds=>some ds
 | .ref n=>aG h n
 | _=>none
theorem xu (r:aV K g α H h) (rd:aL K g α H d x) (e:kS d h=some ds):∃p vs,x=.ref p/\Rd H p (.lst vs)/\au K g α H ds vs:=by
 cases rd with
 | frl hq rs=>cases e;exact⟨_,_,rfl,hq.rd,rs⟩
 | ref hp=>obtain⟨vs,hv,rs⟩:=r.lst e hp;exact⟨_,vs,rfl,.inl hv,rs⟩
 | _=>cases e
noncomputable def EN:R2:=fun x y H Q=>∃l b xs zs,x=.ref l/\y=.ref b/\Rd H l (.lst xs)/\Rd H b (.lst zs)/\xs.length+zs.length<=sizeLine/\∀p,H p=none->Q (.ref p) (upd H p (.lst (xs++zs)))
theorem F4 {σ:St} (I:Inv X pins σ H s) (h:Rd H l (.lst xs)):∃its n,xs.length<=sizeLine/\Vals xs its/\xs.length=its.length/\s.heap.get? l=some { cls:=.type "list", data:=.seq its.toArray n }:=by
 obtain⟨z,its,n,r,e⟩:=h.ok I.hok
 exact⟨its,n,z,r,r.length,e⟩
theorem C7:OpR X (binaryOp .Add) EN:=by
 intro pins s σ H x y v u Q I rx ry h
 obtain⟨l,b,xs,zs,rfl,rfl,hH,hB,hz,q⟩:=h
 cases rx
 cases ry
 obtain⟨its,n,z,r,hl,e⟩:=F4 I hH
 obtain⟨its2,n2,z2,r2,hl2,e2⟩:=F4 I hB
 refine PySem.P.add_list e e2 ?_ (by simp_all)
 have ea:its.toArray++its2.toArray=(its++its2).toArray:=by simp
 rw[ea]
 exact⟨.ref _,_,I.Dj (r.append r2) (by simp_all),rfl,q _ I.fresh⟩
noncomputable def aW (nl:NL):D->D->Hh->R D:=fun x y h=>match x,y with
 | .int i,.int j=>.ok (.int (i+j)) h
 | .tup a,.tup b=>if a.length+b.length<=1000000 then .ok (.tup (a++b)) h else .bad
 | .str a,.str b=>if a.length+b.length<=1000000 then .ok (.str (a++b)) h else .bad
 | x,y=>match kS x h,kS y h with
  | some a,some b=>if a.length+b.length<=1000000 then nl (a++b) h else .bad
  | _,_=>.bad
noncomputable abbrev Bj (K:ab):R2:=fun x y H Q=>(rI0 fun i j=>.int (i+j)) x y H Q\/(E4 K x y H Q\/Cr K x y H Q)\/EN x y H Q\/∃i j,x=.str i/\y=.str j/\i.length+j.length<=sizeLine/\Q (.str (i++j)) H
theorem GS:OpR X (binaryOp .Add) (fun x y H Q=>Bj X.K x y H (g7 Q)):=OpR.frz (OpR.or G5 (OpR.or (OpR.or DH Bf) (OpR.or C7 wD)))
theorem aO.Al (p:aO K g α H Q d h) (r:aV K g α H h) (rd:aL K g α H d v):g7 Q v H:=.inl (p.now r rd)
theorem Gw {nl:NL} [jj nl]:dM K g ε (aW nl) (fun x y H Q=>Bj K x y H (g7 Q)):=by
 intro α H h a b x y Q r ra rb w
 have gen:∀{a b:D} {x y:V},aL K g α H a x->aL K g α H b y->WQ K g ε α H (match kS a h,kS b h with
  | some a,some b=>if a.length+b.length<=1000000 then nl (a++b) h else .bad
  | _,_=>.bad) (aO K g α H Q)->Bj K x y H (g7 Q):=by
  intro a b x y ra rb w
  cases e1:kS a h with
  | none=>simp only[e1] at w;exact w.elim
  | some da=>
   cases e2:kS b h with
   | none=>simp only[e1,e2] at w;exact w.elim
   | some db=>
    simp only[e1,e2] at w
    obtain⟨p,va,rfl,hva,rsa⟩:=xu r ra e1
    obtain⟨q,vb,rfl,hvb,rsb⟩:=xu r rb e2
    obtain⟨hl,w⟩:=WQ.dO w
    refine .inr (.inr (.inl ⟨p,q,va,vb,rfl,rfl,hva,hvb,h8 (by rw[<- rsa.length,<- rsb.length];exact hl),fun l hl'=>?_⟩))
    exact NL.post w r (rsa.append rsb) hl'
 unfold aW at w
 split at w
 ·cases ra
  cases rb
  exact .inl ⟨_,_,rfl,rfl,aO.Al w r (.int _)⟩
 ·cases ra with
  | @tup da pa va ha rsa=>
   cases rb with
   | @tup db pb vb hb rsb=>
    obtain⟨hl,w⟩:=WQ.dO w
    refine .inr (.inl ?_)
    cases va with
    | nil=>
     cases rsa
     exact .inr ⟨_,_,_,rfl,rfl,SqT.of ha,SqT.of hb,aO.Al w r (.tup hb rsb)⟩
    | cons z zs=>
     refine .inl ⟨_,_,_,_,rfl,rfl,SqT.of ha,SqT.of hb,by simp,h8 (by rw[<- rsa.length,<- rsb.length];exact hl),fun e=>?_,fun _ p hp=>.inl (aO.tup w r (rsa.append rsb) hp)⟩
     subst e
     cases rsb
     refine aO.Al w r (.tup ha ?_)
     rw[PU];exact rsa
 ·cases ra
  cases rb
  obtain⟨hl,w⟩:=WQ.dO w
  exact .inr (.inr (.inr ⟨_,_,rfl,rfl,h8 hl,aO.Al w r (.str _)⟩))
 ·exact gen ra rb w
noncomputable def dm:D->D->Hh->R D
 | .int i,.int j,h=>.ok (.int (i - j)) h
 | _,_,_=>.bad
theorem HR:dM K g ε dm (rI0 fun i j=>.int (i - j)):=by
 intro α H h a b x y Q r ra rb w
 cases ra with
 | int i=>
  cases rb with
  | int j=>exact⟨i,j,rfl,rfl,aO.now w r (.int _)⟩
  | _=>exact w.elim
 | _=>exact w.elim
noncomputable def EV:R2:=fun x y H Q=>∃l k xs,x=.ref l/\y=.int k/\Rd H l (.lst xs)/\-(2 ^ 63)<=k/\k<2 ^ 63/\xs.length*k.toNat<=sizeLine ∧
 ∀p,H p=none->Q (.ref p) (upd H p (.lst (NS k.toNat xs).flatten))
theorem CK:OpR X (binaryOp .Mult) EV:=by
 intro pins s σ H x y v u Q I rx ry h
 obtain⟨l,k,xs,rfl,rfl,hH,h1,h2,hz,q⟩:=h
 cases rx
 obtain⟨t,rfl⟩:=ry
 obtain⟨its,n,z,r,hl,e⟩:=F4 I hH
 have hlen:its.toArray.size*k.toNat<=sizeLine:=by simp_all
 have hcap:¬ its.toArray.size*k.toNat > (2 ^ 63 - 1) / 8:=by
  have:(sizeLine:Nat)<=(2 ^ 63 - 1) / 8:=by decide
  lia
 have hfit:¬ (!Builtin.List.listFitsIndex k)=true:=by
  rw[R7 h1 h2]
  simp
 have hlong:¬ Qp (its.toArray.size*k.toNat)=true:=by
  rw[Au hlen]
  simp
 have hnew:List.foldl (fun x1 x2=>x1++x2) #[] (NS (if its.toArray.isEmpty=true then 0 else k.toNat) its.toArray)=(NS k.toNat its).flatten.toArray:=by
  have f0:=fun m=>by
   have:=foldl_rep its m []
   rw[Pd] at this
   exact this
  rw[f0]
  cases its with
  | nil=>simp
  | cons a r'=>rfl
 refine wpAny_binaryOp_repeat_ref (by decide) ⟨_,e,rfl⟩ (fun s'=>SS s' k t) noFill_list_mul F.fills_int_mul F.slot_int_rmul repeat_list F.slot_int_index.lookup
  (RG F.slot_int_rmul (SS s k t) F.entry_int_rmul (F.args_int_rmul_2 _ _) (int___rmul___int_list k t l its.toArray n)
   ⟨e,rfl,⟨_,e,rfl⟩,RG F.slot_list_mul ⟨_,e,rfl⟩ F.entry_list_mul (F.args_list_mul_2 _ _) (AutoListH.list___mul___list_int_3 l its.toArray n k t hfit hcap hlong) ⟨e,?_⟩⟩)
 rw[hnew]
 exact⟨.ref _,_,I.Dj (r.rep k.toNat) (by rw[len_rep,Qq];exact hz),rfl,q _ I.fresh⟩
noncomputable def ll (nl:NL):D->D->Hh->R D:=fun x y h=>match x,y with
 | .int i,.int j=>if sml i=true/\sml j=true then .ok (.int (i*j)) h else .bad
 | x,.int k=>match kS x h with
  | some ds=>if k.natAbs<=1000000/\ds.length*k.toNat<=1000000 then nl (NS k.toNat ds).flatten h else .bad
  | none=>.bad
 | _,_=>.bad
theorem Eb:OpR X (binaryOp .Mult) (rI (fun i j=>sml i=true/\sml j=true) fun i j=>.int (i*j)):=opI fun _ _ _ _ _ _ _ hc q=>mul_int q (IntMulOk.of_bits (NT (iK hc.1) (by decide)) (NT (iK hc.2) (by decide)))
noncomputable abbrev Bu:R2:=fun x y H Q=>(rI (fun i j=>sml i=true/\sml j=true) fun i j=>.int (i*j)) x y H Q\/EV x y H Q
theorem Fi:OpR X (binaryOp .Mult) (fun x y H Q=>Bu x y H (g7 Q)):=OpR.frz (OpR.or Eb CK)
theorem Hg {nl:NL} [jj nl]:dM K g ε (ll nl) (fun x y H Q=>Bu x y H (g7 Q)):=by
 intro α H h a b x y Q r ra rb w
 have gen:∀{a:D} {k:Int} {x:V},aL K g α H a x->WQ K g ε α H (match kS a h with
  | some ds=>if k.natAbs<=1000000/\ds.length*k.toNat<=1000000 then nl (NS k.toNat ds).flatten h else .bad
  | none=>.bad) (aO K g α H Q)->Bu x (.int k) H (g7 Q):=by
  intro a k x ra w
  cases e1:kS a h with
  | none=>simp only[e1] at w;exact w.elim
  | some ds=>
   simp only[e1] at w
   obtain⟨hl,w⟩:=WQ.dO w
   obtain⟨p,vs,rfl,hv,rs⟩:=xu r ra e1
   refine .inr ⟨p,k,vs,rfl,rfl,hv,by lia,by lia,h8 (by rw[<- rs.length];exact hl.2),fun l hl'=>?_⟩
   exact NL.post w r (rs.flat k.toNat) hl'
 unfold ll at w
 split at w
 ·cases ra
  cases rb
  obtain⟨hc,w⟩:=WQ.dO w
  exact .inl ⟨_,_,rfl,rfl,hc,aO.Al w r (.int _)⟩
 ·cases rb
  exact gen ra w
 ·exact w.elim
noncomputable def tZ:D->D->Hh->R D
 | .int i,.int j,h=>if 0<j/\sml j=true then .ok (.int (i / j)) h else .bad
 | _,_,_=>.bad
theorem Az:OpR X (binaryOp .FloorDiv) (rI (fun i j=>0<j/\sml j=true) fun i j=>.int (i / j)):=opI fun i j _ _ _ _ _ hc q=>by
 have e:i.fdiv j=i / j:=Int.fdiv_eq_ediv_of_nonneg _ (by lia)
 refine floordiv_int (by lia) ?_ (.inl (PyProof.noPylong_of_log2 (Rv (Eu hc.2) (by decide))))
 simp_all
theorem Fd:dM K g ε tZ (rI (fun i j=>0<j/\sml j=true) fun i j=>.int (i / j)):=by
 intro α H h a b x y Q r ra rb w
 cases ra with
 | int i=>
  cases rb with
  | int j=>
   obtain⟨hc,w⟩:=WQ.dO w
   exact⟨i,j,rfl,rfl,hc,aO.now w r (.int _)⟩
  | _=>exact w.elim
 | _=>exact w.elim
noncomputable def nc:D->D->Hh->R D
 | .int i,.int j,h=>if 0<j then .ok (.int (i % j)) h else .bad
 | _,_,_=>.bad
theorem G6:dM K g ε nc (rI (fun _ j=>0<j) fun i j=>.int (i % j)):=by
 intro α H h a b x y Q r ra rb w
 cases ra with
 | int i=>
  cases rb with
  | int j=>
   obtain⟨hc,w⟩:=WQ.dO w
   exact⟨i,j,rfl,rfl,hc,aO.now w r (.int _)⟩
  | _=>exact w.elim
 | _=>exact w.elim
noncomputable def GZ:D->D->Hh->R D
 | .int i,.int j,h=>if 0<=j/\j.natAbs<=1000/\sml i=true then .ok (.int (i ^ j.toNat)) h else .bad
 | _,_,_=>.bad
theorem C0:OpR X (binaryOp .Pow) (rI (fun i j=>0<=j/\j.natAbs<=1000/\sml i=true) fun i j=>.int (i ^ j.toNat)):=opI fun i j _ _ _ _ _ hc q=>pow_int hc.1 (by
 have:=iK hc.2.2
 have h1:((Qk i:Nat):Int)<=1900:=by lia
 calc ((Qk i:Nat):Int)*j<=1900*j:=O0 h1 hc.1
  _<=1900*1000:=Int.mul_le_mul_of_nonneg_left (show j<=1000 by lia) (by decide)
  _<=2 ^ 27:=by decide) q
theorem Ge:dM K g ε GZ (rI (fun i j=>0<=j/\j.natAbs<=1000/\sml i=true) fun i j=>.int (i ^ j.toNat)):=by
 intro α H h a b x y Q r ra rb w
 cases ra with
 | int i=>
  cases rb with
  | int j=>
   obtain⟨hc,w⟩:=WQ.dO w
   exact⟨i,j,rfl,rfl,hc,aO.now w r (.int _)⟩
  | _=>exact w.elim
 | _=>exact w.elim
noncomputable def wW:D->Hh->R D
 | .int i,h=>.ok (.int (-i)) h
 | _,_=>.bad
theorem tj:JD K g ε wW (rU fun i=>.int (-i)):=by
 intro α H h a x Q r ra w
 cases ra with
 | int i=>exact⟨i,rfl,aO.now w r (.int _)⟩
 | _=>exact w.elim
noncomputable def Bw (p:Int->Int->Bool):D->D->Hh->R D
 | .int i,.int j,h=>.ok (.bl (p i j)) h
 | _,_,_=>.bad
noncomputable def ltI:Int->Int->Bool
 | .ofNat a,.ofNat b=>Tg a b
 | .ofNat _,.negSucc _=>false
 | .negSucc _,.ofNat _=>true
 | .negSucc a,.negSucc b=>Tg b a
theorem nX:ltI=fun i j=>decide (i<j):=by
 funext i j
 cases i with
 | ofNat a=>
  cases j with
  | ofNat b=>
   show Tg a b=_
   rw[PZ,Nat.blt_eq,decide_eq_true_iff]
   simp
  | negSucc b=>rfl
 | negSucc a=>
  cases j with
  | ofNat b=>exact(decide_eq_true (by grind)).symm
  | negSucc b=>
   show Tg b a=_
   rw[PZ,Nat.blt_eq,decide_eq_true_iff]
   lia
noncomputable def leI (i j:Int):Bool:=!ltI j i
theorem sZ:leI=fun i j=>decide (i<=j):=by
 funext i j
 unfold leI
 rw[nX,PZ]
 simp
noncomputable def dLt:D->D->Hh->R D:=Bw ltI
noncomputable def dLe:D->D->Hh->R D:=Bw leI
noncomputable def dGt:D->D->Hh->R D:=Bw fun i j=>ltI j i
noncomputable def dGe:D->D->Hh->R D:=Bw fun i j=>leI j i
theorem tI:dM K g ε (Bw p) (rI0 fun i j=>.bl (p i j)):=by
 intro α H h a b x y Q r ra rb w
 cases ra with
 | int i=>
  cases rb with
  | int j=>exact⟨i,j,rfl,rfl,aO.now w r (.bl _)⟩
  | _=>exact w.elim
 | _=>exact w.elim
theorem EH:dM K g ε dLt (rI0 fun i j=>.bl (decide (i<j))):=by
 unfold dLt;rw[nX];exact tI
theorem jv:dM K g ε dLe (rI0 fun i j=>.bl (decide (i<=j))):=by
 unfold dLe;rw[sZ];exact tI
theorem IK:dM K g ε dGt (rI0 fun i j=>.bl (decide (j<i))):=by
 unfold dGt;rw[nX];exact tI
theorem Ji:dM K g ε dGe (rI0 fun i j=>.bl (decide (j<=i))):=by
 unfold dGe;rw[sZ];exact tI
noncomputable def f9 (d:D) (h:Hh):Option (List D):=match d with
 | .tup ds=>some ds
 | .frl ds=>some ds
 | .scr ds=>some ds
 | .ref n=>aG h n
 | _=>none
theorem mS (r:aV K g α H h) (rd:aL K g α H d x) (e:f9 d h=some ds):∃p vs,x=.ref p/\(SqL K H p vs\/SqT K H p vs)/\au K g α H ds vs:=by
 cases rd with
 | tup hq rs=>cases e;exact⟨_,_,rfl,.inr (SqT.of hq),rs⟩
 | frl hq rs=>cases e;exact⟨_,_,rfl,.inl hq.sq,rs⟩
 | scr hq rs=>cases e;exact⟨_,_,rfl,.inl hq.sq,rs⟩
 | ref hp=>obtain⟨vs,hv,rs⟩:=r.lst e hp;exact⟨_,vs,rfl,.inl (SqL.of hv),rs⟩
 | _=>cases e
noncomputable def dIx:D->D->Hh->R D:=fun a b h=>match f9 a h,b with
 | some ds,.int i=>match atI ds i with
  | some d=>.ok d h
  | none=>.bad
 | _,_=>.bad
theorem xX (rs:au K g α H ds vs) (e:atI ds i=some d):∃v,atI vs i=some v/\aL K g α H d v:=by
 unfold atI at e ⊢
 rw[<- rs.length]
 cases e1:ixN ds.length i with
 | none=>simp_all
 | some j=>
  rw[e1] at e
  exact rs.get e
theorem Kw:dM K g ε dIx (rIx K):=by
 intro α H h a b x y Q r ra rb w
 unfold dIx at w
 cases e1:f9 a h with
 | none=>simp only[e1] at w;exact w.elim
 | some ds=>
  simp only[e1] at w
  obtain⟨p,vs,rfl,hq,rs⟩:=mS r ra e1
  cases rb with
  | int i=>
   cases e2:atI ds i with
   | none=>simp only[e2] at w;exact w.elim
   | some d=>
    simp only[e2] at w
    obtain⟨v,ev,rv⟩:=xX rs e2
    rcases hq with hq | hq
    ·exact .inl ⟨p,vs,i,v,rfl,rfl,hq,ev,aO.now w r rv⟩
    ·exact .inr (.inl ⟨p,vs,i,v,rfl,rfl,hq,ev,aO.now w r rv⟩)
  | _=>exact w.elim
noncomputable def jL:D->D->D->Hh->R Unit:=fun o i v h=>match o,i with
 | .ref n,.int k=>match aG h n with
  | some ds=>match ixN ds.length k with
   | some j=>.ok () (h.set n (.lst (ds.set j v)))
   | none=>.bad
  | none=>.bad
 | _,_=>.bad
theorem ou:Km K g ε jL EK:=by
 intro α H h o i v x y z Q r ro ri rv w
 unfold jL at w
 cases ro with
 | @ref n p hp=>
  cases ri with
  | int k=>
   cases e1:aG h n with
   | none=>simp only[e1] at w;exact w.elim
   | some ds=>
    simp only[e1] at w
    cases e2:ixN ds.length k with
    | none=>simp only[e2] at w;exact w.elim
    | some j=>
     simp only[e2] at w
     obtain⟨vs,hv,rs⟩:=r.lst e1 hp
     refine⟨p,vs,k,j,rfl,rfl,hv,by rw[<- rs.length];exact e2,?_⟩
     have x:=Ext.write (o:=.lst (vs.set j z)) r hp
     exact w _ α x (r.write hp ⟨_,bp,(rs.set rv j).ext x⟩)
  | _=>exact w.elim
 | _=>exact w.elim
noncomputable def cutD (xs:List D) (lo hi:Option Int):List D:=(xs.drop (HT.sIx xs.length 0 lo)).take (HT.sIx xs.length xs.length hi - HT.sIx xs.length 0 lo)
theorem ko (rs:au K g α H ds vs) (lo hi):au K g α H (cutD ds lo hi) (pN vs lo hi):=by
 unfold cutD pN
 rw[<- rs.length]
 exact(rs.drop _).take _
noncomputable abbrev MO:=En->Hh->R (Option Int)
noncomputable def gg:MO:=fun _ h=>.ok none h
noncomputable def gi (a:ME):MO:=fun env h=>(a env h).bind fun d h1=>match d with
 | .int i=>.ok (some i) h1
 | _=>.bad
noncomputable def tMO (K:ab) (g:GG) (ε:EE) (m:MO):TO:=fun σ H Q=>∃α env h,cZ K g α H env σ h/\WQ K g ε α H (m env h) fun o h'=>∀H' α',Ext K α H α' H'->aV K g α' H' h'->Q o H'
theorem PO.imp (h:PO X e t) (i:∀σ H Q,t' σ H Q->t σ H Q):PO X e t':=fun pins s σ H Q I w=>h pins s σ H Q I (i σ H Q w)
theorem mT:PO X none (tMO X.K g ε gg):=PO.imp DS fun σ H Q ⟨α,env,h,s,w⟩=>w H α Ext.refl s.heap
theorem f6 {e:Expr}{me:ME} (he:PE X e (tM X.K g ε me)):PO X (some e) (tMO X.K g ε (gi me)):=PO.imp (Ed he) fun σ H Q ⟨α,env,h,s,w⟩=>tM.use s w.bind fun d1 h1 v1 H1 α1 e1 s1 r1 w1=>by
 cases r1 with
 | int i=>exact⟨i,rfl,w1 H1 α1 e1 s1.heap⟩
 | _=>exact w1.elim
noncomputable def ze (nl:NL):D->Option Int->Option Int->Hh->R D:=fun d lo hi h=>match d with
 | .tup ds=>.ok (.tup (cutD ds lo hi)) h
 | .frl ds=>nl (cutD ds lo hi) h
 | .scr ds=>nl (cutD ds lo hi) h
 | .ref n=>match aG h n with
  | some ds=>nl (cutD ds lo hi) h
  | none=>.bad
 | _=>.bad
noncomputable def fH (nl:NL) (a:ME) (l u:MO):ME:=fun env h=>(a env h).bind fun x h1=>(l env h1).bind fun lo h2=>(u env h2).bind fun hi h3=>ze nl x lo hi h3
theorem tMO.use (s:cZ K g α H env σ h) (w:WQ K g ε α H (m env h) k)
  (q:∀d h' H' α',Ext K α H α' H'->cZ K g α' H' env σ h'->k d h'->Q d H'):tMO K g ε m σ H Q:=
 ⟨α,env,h,s,w.mono fun d h' _ kk H' α' e r=>q d h' H' α' e (s.ext e r) kk⟩
theorem gP {nl:NL} [jj nl]{e:Expr}{me:ME}{lo hi:Option Expr}{ml mh:MO}{p2 pos:Pos} (he:PE X e (tM X.K g ε me)) (hl:PO X lo (tMO X.K g ε ml)) (hu:PO X hi (tMO X.K g ε mh)):PE X (.Subscript e (.Slice lo hi none p2) pos) (tM X.K g ε (fH nl me ml mh)):=
 PE.imp (PE.frz (A0 (SlR.or C6 (SlR.or Fj Dp)) he hl hu)) fun σ H Q ⟨α,env,h,s,w⟩=>tM.use s w.bind fun d1 h1 v1 H1 α1 e1 s1 r1 w1=>tMO.use s1 (w1.ext e1).bind fun o2 h2 H2 α2 e2 s2 w2=>tMO.use s2 (w2.ext e2).bind fun o3 h3 H3 α3 e3 s3 w3=>by
  have tr:=e1.trans (e2.trans e3)
  have r3:=r1.ext (e2.trans e3)
  have w4:=(w3.ext e3).mono fun _ _ _ p=>aO.ext tr p
  unfold ze at w4
  cases r3 with
  | @frl ds p vs hq rs=>exact .inl ⟨_,_,rfl,hq.sq,fun l hl=>NL.post w4 s3.heap (ko rs _ _) hl⟩
  | @scr ds p vs hq rs=>exact .inl ⟨_,_,rfl,hq.sq,fun l hl=>NL.post w4 s3.heap (ko rs _ _) hl⟩
  | @ref n p hp=>
   cases e1:aG h3 n with
   | none=>simp only[e1] at w4;exact w4.elim
   | some ds=>
    simp only[e1] at w4
    obtain⟨vs,hv,rs⟩:=s3.heap.lst e1 hp
    exact .inl ⟨_,_,rfl,SqL.of hv,fun l hl=>NL.post w4 s3.heap (ko rs _ _) hl⟩
  | @tup ds p vs hq rs=>
   refine .inr ?_
   by_cases hw:HT.sIx vs.length 0 o2=0/\HT.sIx vs.length vs.length o3=vs.length
   ·refine .inr ⟨_,_,rfl,SqT.of hq,hw.1,hw.2,?_⟩
    refine aO.Al w4 s3.heap (.tup hq ?_)
    have:pN vs o2 o3=vs:=by unfold pN;simp_all
    have q:=ko rs o2 o3
    simp_all
   ·exact .inl ⟨_,_,rfl,SqT.of hq,hw,fun l hl=>.inl (aO.tup w4 s3.heap (ko rs _ _) hl)⟩
  | _=>exact w4.elim
end
noncomputable def fk:D->Bool
 | .non=>true | .bl _=>true | .int _=>true | .str _=>true
 | _=>false
noncomputable def eqF:D->D->Bool
 | .non,.non=>true
 | .bl a,.bl b=>a == b
 | .bl a,.int b=>(if a then 1 else 0) == b
 | .int a,.bl b=>a == (if b then 1 else 0)
 | .int a,.int b=>a == b
 | .str a,.str b=>a == b
 | _,_=>false
noncomputable def eqL (f:D->D->Option Bool):List D->List D->Option Bool
 | x::xs,y::ys=>match f x y,eqL f xs ys with
  | some b,some c=>some (b&&c)
  | _,_=>none
 | [],[]=>some true
 | _,_=>some false
inductive Vw where
 | fl | tp (ds:List D) | ls (ds:List D) | no
noncomputable def vw (d:D) (h:Hh):Vw:=match d with
 | .non=>.fl | .bl _=>.fl | .int _=>.fl | .str _=>.fl
 | .tup ds=>.tp ds
 | .frl ds=>.ls ds
 | .scr ds=>.ls ds
 | .ref n=>match aG h n with
  | some ds=>.ls ds
  | none=>.no
 | _=>.no
noncomputable def eqD:Nat->Hh->D->D->Option Bool
 | 0,_,_,_=>none
 | k+1,h,a,b=>match vw a h,vw b h with
  | .fl,.fl=>some (eqF a b)
  | .tp xs,.tp ys=>eqL (eqD k h) xs ys
  | .ls xs,.ls ys=>if xs.length=ys.length then eqL (eqD k h) xs ys else some false
  | .fl,.tp _=>some false
  | .fl,.ls _=>some false
  | .tp _,.fl=>some false
  | .tp _,.ls _=>some false
  | .ls _,.fl=>some false
  | .ls _,.tp _=>some false
  | _,_=>none
section
variable {K:ab}{g:GG}{α:List Addr}{H:Hp}{h:Hh}
theorem nj {f:D->D->Option Bool} (hf:∀a b x c,aL K g α H a x->aL K g α H b x->f a b=some c->c=true):∀{xs ys:List D}{vs:List V}{c:Bool},au K g α H xs vs->au K g α H ys vs->eqL f xs ys=some c->c=true
 | _,_,_,_,.nil,.nil,e=>by simp[eqL] at e;exact e
 | _,_,_,c,.cons r t,.cons r' t',e=>by
  unfold eqL at e
  split at e
  ·rename_i b c' h1 h2
   have e1:=hf _ _ _ _ r r' h1
   have e2:=nj hf t t' h2
   simp_all
  grind
theorem oj {d:D}{x:V} (rd:aL K g α H d x) (e:vw d h=.fl):fk d=true:=by
 cases rd with
 | ref hp=>unfold vw at e;simp only at e;split at e<;>cases e
 | _=>first | rfl | cases e
theorem lV (rd:aL K g α H d x) (e:vw d h=.tp ds):∃p vs,x=.ref p/\SqT K H p vs/\au K g α H ds vs:=by
 cases rd with
 | tup hp rs=>cases e;exact⟨_,_,rfl,SqT.of hp,rs⟩
 | ref hp=>unfold vw at e;grind
 | _=>cases e
theorem lJ (r:aV K g α H h) (rd:aL K g α H d x) (e:vw d h=.ls ds):∃p vs,x=.ref p/\SqL K H p vs/\au K g α H ds vs:=by
 cases rd with
 | frl hp rs=>cases e;exact⟨_,_,rfl,hp.sq,rs⟩
 | scr hp rs=>cases e;exact⟨_,_,rfl,hp.sq,rs⟩
 | @ref n p hp=>
  unfold vw at e
  simp only at e
  cases el:aG h n with
  | none=>simp_all
  | some ds'=>
   rw[el] at e;cases e
   obtain⟨vs,hv,rs⟩:=r.lst el hp
   exact⟨_,_,rfl,SqL.of hv,rs⟩
 | _=>cases e
theorem yp {f:D->D->Option Bool}:∀{xs ys:List D}{c:Bool},eqL f xs ys=some c →
  (∀(j:Nat) (x y:D),xs[j]?=some x->ys[j]?=some y->∃b,f x y=some b)/\c=((Nj (min xs.length ys.length)).all (fun j=>((f (xs.getD j .non) (ys.getD j .non)).getD false))&&xs.length == ys.length)
 | [],[],c,e=>by
  simp[eqL] at e
  simp[<- e]
 | [],_::_,c,e=>by
  simp[eqL] at e
  exact⟨fun j x y h=>by simp at h,by simp[<- e]⟩
 | _::_,[],c,e=>by
  simp[eqL] at e
  exact⟨fun j x y _ h=>by simp at h,by simp[<- e]⟩
 | x::xs,y::ys,c,e=>by
  unfold eqL at e
  split at e
  ·rename_i b c' h1 h2
   obtain⟨q1,q2⟩:=yp h2
   refine⟨fun j x' y' hx hy=>?_,?_⟩
   ·cases j with
    | zero=>simp at hx hy;subst hx hy;exact⟨b,h1⟩
    | succ j=>exact q1 j x' y' (by simpa using hx) (by simpa using hy)
   ·have e':=(N5 e).symm
    rw[e',q2]
    have hm:min (x::xs).length (y::ys).length=min xs.length ys.length+1:=by simp[Nat.succ_min_succ]
    rw[hm,List.range_succ_eq_map,Qu,List.all_map]
    have h0:(f ((x::xs).getD 0 .non) ((y::ys).getD 0 .non)).getD false=b:=by
     show(f x y).getD false=b
     rw[h1];rfl
    rw[h0]
    have hlen:((x::xs).length == (y::ys).length)=(xs.length == ys.length):=by simp
    rw[hlen,Bool.and_assoc]
    rfl
  ·cases e
end
section
variable {X:Cx}{g:GG}{pins:List (Addr × Obj)}{σ:St}{H:Hp}{s:Nk}{α:List Addr}{h:Hh}
open PySem.SeqAt
theorem D7 {K:ab} (ra:aL K g α H a x) (rb:aL K g α H b y) (ru:RelV x u) (rv:RelV y v) (fa:fk a=true) (fb:fk b=true) :
  EqAt A s u v (eqF a b)/\RcAt A s u v (eqF a b)/\Sm A s u v (!eqF a b):=by
 cases ra with
 | non=>
  cases ru
  cases rb with
  | non=>cases rv;exact⟨.same _,.none_none,.none_none⟩
  | bl z=>cases rv;exact⟨.none_bool z,.none_bool z,.none_bool z⟩
  | int z=>obtain⟨t,rfl⟩:=rv;exact⟨.none_int z t,.none_int z t,.none_int z t⟩
  | str z=>obtain⟨t,rfl⟩:=rv;exact⟨.none_str z t,.none_str z t,.none_str z t⟩
  | _=>cases fb
 | bl q=>
  cases ru
  cases rb with
  | non=>cases rv;exact⟨.bool_none q,.bool_none q,.bool_none q⟩
  | bl z=>cases rv;exact⟨.bool_bool q z,.bool_bool q z,.bool_bool q z⟩
  | int z=>obtain⟨t,rfl⟩:=rv;exact⟨.bool_int q z t,.bool_int q z t,.bool_int q z t⟩
  | str z=>obtain⟨t,rfl⟩:=rv;exact⟨.bool_str q z t,.bool_str q z t,.bool_str q z t⟩
  | _=>cases fb
 | int q=>
  obtain⟨t',rfl⟩:=ru
  cases rb with
  | non=>cases rv;exact⟨.int_none q t',.int_none q t',.int_none q t'⟩
  | bl z=>cases rv;exact⟨.int_bool q t' z,.int_bool q t' z,.int_bool q t' z⟩
  | int z=>obtain⟨t,rfl⟩:=rv;exact⟨.int_int q t' z t,.int_int q t' z t,.int_int q t' z t⟩
  | str z=>obtain⟨t,rfl⟩:=rv;exact⟨.int_str q t' z t,.int_str q t' z t,.int_str q t' z t⟩
  | _=>cases fb
 | str q=>
  obtain⟨t',rfl⟩:=ru
  cases rb with
  | non=>cases rv;exact⟨.str_none q t',.str_none q t',.str_none q t'⟩
  | bl z=>cases rv;exact⟨.str_bool q t' z,.str_bool q t' z,.str_bool q t' z⟩
  | int z=>obtain⟨t,rfl⟩:=rv;exact⟨.str_int q t' z t,.str_int q t' z t,.str_int q t' z t⟩
  | str z=>obtain⟨t,rfl⟩:=rv;exact⟨.str_str q t' z t,.str_str q t' z t,.str_str q t' z t⟩
  | _=>cases fb
 | _=>cases fa
theorem tQ {K:ab} (ht:s.heap.IsTuple p its) (hu:A.units<cLine) (rb:aL K g α H b y) (rv:RelV y v) (fb:fk b=true) :
  (EqAt A s (.ref p) v false/\RcAt A s (.ref p) v false/\Sm A s (.ref p) v true)/\(EqAt A s v (.ref p) false/\RcAt A s v (.ref p) false/\Sm A s v (.ref p) true):=by
 cases rb with
 | non=>cases rv;exact⟨⟨.tuple_none ht hu,.tuple_none ht hu,.tuple_none ht hu⟩,.none_tuple ht hu,.none_tuple ht hu,.none_tuple ht hu⟩
 | bl z=>cases rv;exact⟨⟨.tuple_bool z ht hu,.tuple_bool z ht hu,.tuple_bool z ht hu⟩,.bool_tuple z ht hu,.bool_tuple z ht hu,.bool_tuple z ht hu⟩
 | int z=>obtain⟨t,rfl⟩:=rv;exact⟨⟨.tuple_int z t ht hu,.tuple_int z t ht hu,.tuple_int z t ht hu⟩,.int_tuple z t ht hu,.int_tuple z t ht hu,.int_tuple z t ht hu⟩
 | str z=>obtain⟨t,rfl⟩:=rv;exact⟨⟨.tuple_str z t ht hu,.tuple_str z t ht hu,.tuple_str z t ht hu⟩,.str_tuple z t ht hu,.str_tuple z t ht hu,.str_tuple z t ht hu⟩
 | _=>cases fb
theorem uW {K:ab} (ht:s.heap.IsList p its) (hu:A.units<cLine) (rb:aL K g α H b y) (rv:RelV y v) (fb:fk b=true) :
  (EqAt A s (.ref p) v false/\RcAt A s (.ref p) v false/\Sm A s (.ref p) v true)/\(EqAt A s v (.ref p) false/\RcAt A s v (.ref p) false/\Sm A s v (.ref p) true):=by
 cases rb with
 | non=>cases rv;exact⟨⟨.list_none ht hu,.list_none ht hu,.list_none ht hu⟩,.none_list ht hu,.none_list ht hu,.none_list ht hu⟩
 | bl z=>cases rv;exact⟨⟨.list_bool z ht hu,.list_bool z ht hu,.list_bool z ht hu⟩,.bool_list z ht hu,.bool_list z ht hu,.bool_list z ht hu⟩
 | int z=>obtain⟨t,rfl⟩:=rv;exact⟨⟨.list_int z t ht hu,.list_int z t ht hu,.list_int z t ht hu⟩,.int_list z t ht hu,.int_list z t ht hu,.int_list z t ht hu⟩
 | str z=>obtain⟨t,rfl⟩:=rv;exact⟨⟨.list_str z t ht hu,.list_str z t ht hu,.list_str z t ht hu⟩,.str_list z t ht hu,.str_list z t ht hu,.str_list z t ht hu⟩
 | _=>cases fb
theorem t7 {A:N1}{k:Nat}{ds es:List D}{vs us:List V}{its jts:List Ng}{c:Bool} (r:aV X.K g α H h)
  (ih:∀(a b:D) (x y:V) (u v:Ng) (c:Bool),aL X.K g α H a x->aL X.K g α H b y->RelV x u->RelV y v->eqD k h a b=some c->EqAt A.in1 s u v c)
  (rs:au X.K g α H ds vs) (rt:au X.K g α H es us) (rv:Vals vs its) (ru:Vals us jts) (e:eqL (eqD k h) ds es=some c) :
  (∀j (h1:j<its.toArray.size) (h2:j<jts.toArray.size),EqAt A.in1 s its.toArray[j] jts.toArray[j] ((fun(j:Nat)=>(eqD k h (ds.getD j .non) (es.getD j .non)).getD false) j)) ∧
  c=((Nj (min its.toArray.size jts.toArray.size)).all (fun(j:Nat)=>(eqD k h (ds.getD j .non) (es.getD j .non)).getD false)&&its.toArray.size == jts.toArray.size):=by
 obtain⟨q1,q2⟩:=yp e
 have l1:its.toArray.size=ds.length:=by rw[NB,<- rv.length,rs.length]
 have l2:jts.toArray.size=es.length:=by rw[NB,<- ru.length,rt.length]
 refine⟨fun j h1 h2=>?_,by rw[l1,l2];exact q2⟩
 have hd:ds[j]?=some (ds.getD j .non):=by rw[Pj,Np (by lia)];rfl
 have he:es[j]?=some (es.getD j .non):=by rw[Pj,Np (by lia)];rfl
 obtain⟨b,hb⟩:=q1 j _ _ hd he
 obtain⟨x,hx,rx⟩:=rs.get hd
 obtain⟨y,hy,ry⟩:=rt.get he
 obtain⟨u,hu,rxu⟩:=rv.get hx
 obtain⟨v,hv,ryv⟩:=ru.get hy
 have eu:its.toArray[j]=u:=by
  have:=Np (by simpa using h1)
  rw[hu] at this
  simpa using(N5 this).symm
 have ev:jts.toArray[j]=v:=by
  have:=Np (by simpa using h2)
  rw[hv] at this
  simpa using(N5 this).symm
 rw[eu,ev]
 show EqAt A.in1 s u v ((eqD k h (ds.getD j .non) (es.getD j .non)).getD false)
 rw[hb]
 exact ih _ _ _ _ _ _ _ rx ry rxu ryv hb
theorem yo (I:Inv X pins σ H s) (a:SqT X.K H p vs) (b:SqL X.K H p us):False:=by
 obtain⟨its,r1,⟨o,e,c,_⟩,_⟩:=I.tuple a
 obtain⟨jts,r2,⟨o',n',e',c',_⟩,_⟩:=I.list b
 simp_all
theorem nu (I:Inv X pins σ H s) (r:aV X.K g α H h):∀(k:Nat) (a b:D) (x:V) (c:Bool),aL X.K g α H a x->aL X.K g α H b x->eqD k h a b=some c->c=true
 | 0,_,_,_,_,_,_,e=>by cases e
 | k+1,a,b,x,c,ra,rb,e=>by
  unfold eqD at e
  cases ea:vw a h with
  | no=>simp_all
  | fl=>
   have fa:=oj ra ea
   cases eb:vw b h with
   | no=>simp_all
   | fl=>
    simp only[ea,eb] at e
    cases e
    cases ra with
    | non=>cases rb with
     | non=>rfl
    | bl z=>cases rb with
     | bl _=>simp[eqF]
    | int z=>cases rb with
     | int _=>simp[eqF]
    | str z=>cases rb with
     | str _=>simp[eqF]
    | _=>cases fa
   | tp ds=>obtain⟨p,vs,rfl,_⟩:=lV rb eb;cases ra<;>cases fa
   | ls ds=>obtain⟨p,vs,rfl,_⟩:=lJ r rb eb;cases ra<;>cases fa
  | tp da=>
   obtain⟨p,va,rfl,hp,rs⟩:=lV ra ea
   cases eb:vw b h with
   | no=>simp_all
   | fl=>have fb:=oj rb eb;cases rb<;>cases fb
   | tp db=>
    simp only[ea,eb] at e
    obtain⟨q,vb,hpq,hq,rt⟩:=lV rb eb
    cases hpq
    have:=I.kQ hp hq
    subst this
    exact nj (fun a b x c=>nu I r k a b x c) rs rt e
   | ls db=>
    obtain⟨q,vb,hpq,hq,rt⟩:=lJ r rb eb
    cases hpq
    exact(yo I hp hq).elim
  | ls da=>
   obtain⟨p,va,rfl,hp,rs⟩:=lJ r ra ea
   cases eb:vw b h with
   | no=>simp_all
   | fl=>have fb:=oj rb eb;cases rb<;>cases fb
   | tp db=>
    obtain⟨q,vb,hpq,hq,rt⟩:=lV rb eb
    cases hpq
    exact(yo I hq hp).elim
   | ls db=>
    simp only[ea,eb] at e
    obtain⟨q,vb,hpq,hq,rt⟩:=lJ r rb eb
    cases hpq
    have:=I.ow hp hq
    subst this
    rw[if_pos (by rw[rs.length,rt.length])] at e
    exact nj (fun a b x c=>nu I r k a b x c) rs rt e
theorem wt (I:Inv X pins σ H s) (r:aV X.K g α H h):∀(k:Nat) (A:N1) (a b:D) (x y:V) (u v:Ng) (c:Bool),A.units+k<cLine->aL X.K g α H a x->aL X.K g α H b y->RelV x u->RelV y v->eqD k h a b=some c →
  EqAt A s u v c/\RcAt A s u v c/\Sm A s u v (!c)
 | 0,_,_,_,_,_,_,_,_,_,_,_,_,_,e=>by cases e
 | k+1,A,a,b,x,y,u,v,c,hu,ra,rb,ru,rv,e=>by
  have hu0:A.units<cLine:=by lia
  have ih:∀(a b:D) (x y:V) (u v:Ng) (c:Bool),aL X.K g α H a x->aL X.K g α H b y->RelV x u->RelV y v->eqD k h a b=some c->EqAt A.in1 s u v c:=
   fun a b x y u v c h1 h2 h3 h4 h5=>(wt I r k A.in1 a b x y u v c (by grind) h1 h2 h3 h4 h5).1
  have whole:=fun x ra rb=>nu I r (k+1) a b x c ra rb e
  unfold eqD at e
  cases ea:vw a h with
  | no=>simp_all
  | fl=>
   have fa:=oj ra ea
   cases eb:vw b h with
   | no=>simp_all
   | fl=>simp only[ea,eb] at e;cases e;exact D7 ra rb ru rv fa (oj rb eb)
   | tp db=>
    simp only[ea,eb] at e;cases e
    obtain⟨q,vb,rfl,hq,rt⟩:=lV rb eb
    cases rv
    obtain⟨its,r1,ht,_⟩:=I.tuple hq
    exact(tQ ht hu0 ra ru fa).2
   | ls db=>
    simp only[ea,eb] at e;cases e
    obtain⟨q,vb,rfl,hq,rt⟩:=lJ r rb eb
    cases rv
    obtain⟨its,r1,ht,_⟩:=I.list hq
    exact(uW ht.isList hu0 ra ru fa).2
  | tp da=>
   obtain⟨p,va,rfl,hp,rs⟩:=lV ra ea
   cases ru
   obtain⟨its,r1,ht,_⟩:=I.tuple hp
   cases eb:vw b h with
   | no=>simp_all
   | fl=>simp only[ea,eb] at e;cases e;exact(tQ ht hu0 rb rv (oj rb eb)).1
   | tp db=>
    simp only[ea,eb] at e
    obtain⟨q,vb,rfl,hq,rt⟩:=lV rb eb
    cases rv
    obtain⟨jts,r2,ht2,_⟩:=I.tuple hq
    obtain⟨h1,h2⟩:=t7 r ih rs rt r1 r2 e
    have rc:RcAt A s (.ref p) (.ref q) c:=by rw[h2];exact RcAt.tuples ht ht2 hu0 h1
    refine⟨?_,rc,by rw[h2];exact Sm.tuples ht ht2 hu0 h1⟩
    by_cases hpq:p=q
    ·subst hpq
     rw[whole _ ra rb]
     exact .same _
    ·exact .of_refs hpq rc
   | ls db=>
    simp only[ea,eb] at e;cases e
    obtain⟨q,vb,rfl,hq,rt⟩:=lJ r rb eb
    cases rv
    obtain⟨jts,r2,ht2,_⟩:=I.list hq
    exact⟨.tuple_list ht ht2.isList hu0,.tuple_list ht ht2.isList hu0,.tuple_list ht ht2.isList hu0⟩
  | ls da=>
   obtain⟨p,va,rfl,hp,rs⟩:=lJ r ra ea
   cases ru
   obtain⟨its,r1,ht',_⟩:=I.list hp
   have ht:=ht'.isList
   cases eb:vw b h with
   | no=>simp_all
   | fl=>simp only[ea,eb] at e;cases e;exact(uW ht hu0 rb rv (oj rb eb)).1
   | tp db=>
    simp only[ea,eb] at e;cases e
    obtain⟨q,vb,rfl,hq,rt⟩:=lV rb eb
    cases rv
    obtain⟨jts,r2,ht2,_⟩:=I.tuple hq
    exact⟨.list_tuple ht ht2 hu0,.list_tuple ht ht2 hu0,.list_tuple ht ht2 hu0⟩
   | ls db=>
    simp only[ea,eb] at e
    obtain⟨q,vb,rfl,hq,rt⟩:=lJ r rb eb
    cases rv
    obtain⟨jts,r2,ht2',_⟩:=I.list hq
    have ht2:=ht2'.isList
    have l1:its.toArray.size=da.length:=by rw[NB,<- r1.length,rs.length]
    have l2:jts.toArray.size=db.length:=by rw[NB,<- r2.length,rt.length]
    have fin:RcAt A s (.ref p) (.ref q) c/\Sm A s (.ref p) (.ref q) (!c):=by
     by_cases hl:da.length=db.length
     ·rw[if_pos hl] at e
      obtain⟨h1,h2⟩:=t7 r ih rs rt r1 r2 e
      have hsz:its.toArray.size=jts.toArray.size:=by lia
      have h2':c=(Nj its.toArray.size).all (fun(j:Nat)=>(eqD k h (da.getD j .non) (db.getD j .non)).getD false):=by
       simp_all
      exact⟨by rw[h2'];exact RcAt.lists ht ht2 hsz hu0 h1,by rw[h2'];exact Sm.lists ht ht2 hsz hu0 h1⟩
     ·rw[if_neg hl] at e
      have e2:c=false:=(N5 e).symm
      have hsz:(its.toArray.size != jts.toArray.size)=true:=by
       simp_all
      rw[e2]
      exact⟨RcAt.lists_lengths ht ht2 hsz hu0,Sm.lists_lengths ht ht2 hsz hu0⟩
    refine⟨?_,fin⟩
    by_cases hpq:p=q
    ·subst hpq
     rw[whole _ ra rb]
     exact .same _
    ·exact .of_refs hpq fin.1
noncomputable abbrev eqN:Nat:=12
noncomputable def dEq:D->D->Hh->R D:=fun a b h=>match eqD eqN h a b with
 | some c=>.ok (.bl c) h
 | none=>.bad
noncomputable def dNe:D->D->Hh->R D:=fun a b h=>match eqD eqN h a b with
 | some c=>.ok (.bl (!c)) h
 | none=>.bad
noncomputable def CL (K:ab) (g:GG) (neg:Bool):R2:=fun x y H Q=>∃α h a b c,aV K g α H h/\aL K g α H a x/\aL K g α H b y/\eqD eqN h a b=some c/\Q (.bl (if neg then !c else c)) H
theorem i3 (hu:X.A.units+64<cLine):OpR X (compareOp .Eq) (CL X.K g false):=by
 intro pins s σ H x y v u Q I rx ry ⟨α,h,a,b,c,r,ra,rb,e,q⟩
 exact(wt I r eqN X.A a b x y v u c (by grind) ra rb rx ry e).2.1 _ _ _ _ ⟨.bl c,H,I,rfl,q⟩
theorem fJ (hu:X.A.units+64<cLine):OpR X (compareOp .NotEq) (CL X.K g true):=by
 intro pins s σ H x y v u Q I rx ry ⟨α,h,a,b,c,r,ra,rb,e,q⟩
 exact(wt I r eqN X.A a b x y v u c (by grind) ra rb rx ry e).2.2 _ _ _ _ ⟨.bl (!c),H,I,rfl,q⟩
theorem lZ {K:ab}:dM K g ε dEq (CL K g false):=by
 intro α H h a b x y Q r ra rb w
 unfold dEq at w
 cases e:eqD eqN h a b with
 | none=>simp only[e] at w;exact w.elim
 | some c=>simp only[e] at w;exact⟨α,h,a,b,c,r,ra,rb,e,aO.now w r (.bl _)⟩
theorem iL {K:ab}:dM K g ε dNe (CL K g true):=by
 intro α H h a b x y Q r ra rb w
 unfold dNe at w
 cases e:eqD eqN h a b with
 | none=>simp only[e] at w;exact w.elim
 | some c=>simp only[e] at w;exact⟨α,h,a,b,c,r,ra,rb,e,aO.now w r (.bl _)⟩
end
section
variable {X:Cx}{K:ab}{g:GG}{ε:EE}
noncomputable def bH:List D->Hh->R D:=fun ds h=>match ds with
 | [.tup ds]=>.ok (.int ds.length) h
 | [.frl ds]=>.ok (.int ds.length) h
 | [.scr ds]=>.ok (.int ds.length) h
 | [.str x]=>if x.length<=1000000 then .ok (.int x.length) h else .bad
 | [.ref n]=>match h[n]? with
  | some (.lst ds)=>.ok (.int ds.length) h
  | some (.set k)=>.ok (.int k.length) h
  | _=>.bad
 | _=>.bad
noncomputable abbrev EM (K:ab):List V->Hp->VK->Prop:=fun xs H Q=>(∃p ys,xs=[.ref p]/\(SqL K H p ys\/SqT K H p ys)/\Q (.int ys.length) H)\/(∃p S n,xs=[.ref p]/\H p=some (.set S n)/\Q (.int n) H)\/∃z,xs=[.str z]/\z.length<=sizeLine/\Q (.int z.length) H
theorem bg:bB X (.builtin "len") (EM X.K):=bB.or rR (bB.or p9 sf)
theorem jG {f:List D->Hh->R D} (hf:∀d e r h,f (d::e::r) h=.bad) (hf0:∀h,f [] h=.bad) (rs:au K g α H ds vs) (w:WQ K g ε α H (f ds h) (aO K g α H Q)):∃d v,ds=[d]/\vs=[v]/\aL K g α H d v:=by
 cases rs with
 | nil=>rw[hf0] at w;exact w.elim
 | cons r t=>
  cases t with
  | nil=>simp_all
  | cons _ _=>rw[hf] at w;exact w.elim
theorem bh:kl K g ε bH (EM K):=by
 intro α H h a x Q r ra w
 obtain⟨d,v,rfl,rfl,rd⟩:=jG (fun d _ _ _=>by cases d<;>rfl) (fun _=>rfl) ra w
 unfold bH at w
 cases rd with
 | tup hp rs=>exact .inl ⟨_,_,rfl,.inr (SqT.of hp),aO.now w r (by rw[<- rs.length];exact .int _)⟩
 | frl hp rs=>exact .inl ⟨_,_,rfl,.inl hp.sq,aO.now w r (by rw[<- rs.length];exact .int _)⟩
 | scr hp rs=>exact .inl ⟨_,_,rfl,.inl hp.sq,aO.now w r (by rw[<- rs.length];exact .int _)⟩
 | str z=>
  obtain⟨hl,w⟩:=WQ.dO w
  exact .inr (.inr ⟨z,rfl,h8 hl,aO.now w r (.int _)⟩)
 | @ref n p hp=>
  simp only at w
  cases e:h[n]? with
  | none=>rw[e] at w;exact w.elim
  | some o=>
   rw[e] at w
   have q:=r.here n p o hp e
   cases o with
   | lst ds=>obtain⟨vs,hv,rs⟩:=q;exact .inl ⟨p,vs,rfl,.inl (SqL.of hv),aO.now w r (by rw[<- rs.length];exact .int _)⟩
   | set k=>exact .inr (.inl ⟨p,_,_,rfl,q,aO.now w r (.int _)⟩)
   | dic k=>exact w.elim
   | dit k=>exact w.elim
 | _=>exact w.elim
noncomputable def eC:List D->Hh->R D:=fun ds h=>match ds with
 | [.tup ds]=>.ok (.tup ds) h
 | [.frl ds]=>.ok (.tup ds) h
 | [.ref n]=>match aG h n with
  | some ds=>.ok (.tup ds) h
  | none=>.bad
 | _=>.bad
theorem eP:kl K g ε eC (fun xs H Q=>∃p ys,xs=[.ref p]/\((SqL K H p ys/\∀l,H l=none->Q (.ref l) (upd H l (.tup ys)))\/(SqT K H p ys/\Q (.ref p) H))):=by
 intro α H h a x Q r ra w
 obtain⟨d,v,rfl,rfl,rd⟩:=jG (fun d _ _ _=>by cases d<;>rfl) (fun _=>rfl) ra w
 unfold eC at w
 cases rd with
 | tup hp rs=>exact⟨_,_,rfl,.inr ⟨SqT.of hp,aO.now w r (.tup hp rs)⟩⟩
 | frl hp rs=>exact⟨_,_,rfl,.inl ⟨hp.sq,fun l hl=>aO.tup w r rs hl⟩⟩
 | @ref n p hp=>
  simp only at w
  cases e:aG h n with
  | none=>rw[e] at w;exact w.elim
  | some ds=>
   rw[e] at w
   obtain⟨vs,hv,rs⟩:=r.lst e hp
   exact⟨p,vs,rfl,.inl ⟨SqL.of hv,fun l hl=>aO.tup w r rs hl⟩⟩
 | _=>exact w.elim
noncomputable def intsOf:List D->Option (List Int)
 | []=>some []
 | .int i::ds=>(intsOf ds).map (i::·)
 | _::_=>none
theorem dI:∀{ds:List D}{ns:List Int},intsOf ds=some ns->ds=ns.map D.int
 | [],ns,e=>by cases e;rfl
 | .int i::ds,ns,e=>by
  unfold intsOf at e
  cases e1:intsOf ds with
  | none=>simp_all
  | some ms=>rw[e1] at e;cases e;rw[dI e1];rfl
 | .non::_,_,e=>by cases e
 | .bl _::_,_,e=>by cases e
 | .str _::_,_,e=>by cases e
 | .tup _::_,_,e=>by cases e
 | .frl _::_,_,e=>by cases e
 | .ref _::_,_,e=>by cases e
 | .fn _::_,_,e=>by cases e
 | .edic::_,_,e=>by cases e
 | .exc _ _::_,_,e=>by cases e
 | .clo _ _::_,_,e=>by cases e
 | .scr _::_,_,e=>by cases e
theorem fI:∀(ns:List Int),intsOf (ns.map D.int)=some ns
 | []=>rfl
 | n::r=>by rw[ND,intsOf,fI r];rfl
noncomputable def zd:List D->Hh->R D:=fun ds h=>match ds with
 | [.tup ds]=>match intsOf ds with
  | some ns=>if ns.length<=4000 then .ok (.ref h.length) (h++[.set (unl ns)]) else .bad
  | none=>.bad
 | _=>.bad
theorem Ay:kl K g ε zd (fun vs H Q=>∃p ns,vs=[.ref p]/\SqT K H p (ns.map V.int)/\ns.length+1<scanBound/\∀l,H l=none->Q (.ref l) (upd H l (.set (fun k=>(unl ns).any (· == k)) (unl ns).length))):=by
 intro α H h a x Q r ra w
 obtain⟨d,v,rfl,rfl,rd⟩:=jG (fun d _ _ _=>by cases d<;>rfl) (fun _=>rfl) ra w
 unfold zd at w
 cases rd with
 | tup hp rs=>
  simp only at w
  cases e:intsOf _ with
  | none=>rw[e] at w;exact w.elim
  | some ns=>
   rw[e] at w
   obtain⟨hl,w⟩:=WQ.dO w
   have e2:=dI e
   subst e2
   have e3:=rs.vM
   subst e3
   refine⟨_,ns,rfl,SqT.of hp,by show ns.length+1<4096;lia,fun l hn=>?_⟩
   refine(show aO K g α H Q _ _ from w) _ _ (α++[l]) (Ext.push hn) (r.push hn bp) (.ref ?_)
   rw[<- r.len];simp
 | _=>exact w.elim
noncomputable def BD:List D->Hh->R D:=fun ds h=>match ds with
 | [.int i,.int j]=>.ok (.int (if j > i then j else i)) h
 | _=>.bad
theorem Ck {t:Int->Int->Int} (r:aV K g α H h) (rs:au K g α H ds vs) (w:WQ K g ε α H (match ds with | [.int i,.int j]=>.ok (.int (t i j)) h | _=>.bad) (aO K g α H Q)):∃i j,vs=[.int i,.int j]/\Q (.int (t i j)) H:=by
 split at w
 ·cases rs with
  | cons r1 t1=>
   cases r1
   cases t1 with
   | cons r2 t2=>
    cases r2
    cases t2
    exact⟨_,_,rfl,aO.now w r (.int _)⟩
 ·exact w.elim
theorem DI:kl K g ε BD (fun xs H Q=>∃i j,xs=[.int i,.int j]/\Q (.int (if j > i then j else i)) H):=fun α H h a x Q r ra w=>Ck r ra w
noncomputable def yX:List D->Hh->R D:=fun ds h=>match ds with
 | [.int i]=>.ok (.int i) h
 | [.bl b]=>.ok (.int (if b then 1 else 0)) h
 | _=>.bad
theorem A6:kl K g ε yX (fun xs H Q=>(∃i,xs=[.int i]/\Q (.int i) H)\/∃k,xs=[.bl k]/\Q (.int (if k then 1 else 0)) H):=by
 intro α H h a x Q r ra w
 obtain⟨d,v,rfl,rfl,rd⟩:=jG (fun d _ _ _=>by cases d<;>rfl) (fun _=>rfl) ra w
 cases rd with
 | int i=>exact .inl ⟨i,rfl,aO.now w r (.int _)⟩
 | bl b=>exact .inr ⟨b,rfl,aO.now w r (.int _)⟩
 | _=>exact w.elim
noncomputable def tyD (d:D) (h:Hh):Option String:=match d with
 | .non=>some "NoneType"
 | .bl _=>some "bool"
 | .int _=>some "int"
 | .str _=>some "str"
 | .tup _=>some "tuple"
 | .frl _=>some "list"
 | .edic=>some "dict"
 | .ref n=>match h[n]? with
  | some (.lst _)=>some "list"
  | some (.dic _)=>some "dict"
  | some (.dit _)=>some "dict"
  | _=>none
 | _=>none
noncomputable def yE (t n:String):Option Bool:=
 if n="int" then (if t="int" then some true else if t="bool" then some true else if t="NoneType" \/ t="str" \/ t="tuple" \/ t="list" \/ t="dict" then some false else none)
 else if n="bool" \/ n="tuple" \/ n="list" \/ n="str" then (if t=n then some true else if t="int" \/ t="bool" \/ t="NoneType" \/ t="str" \/ t="tuple" \/ t="list" \/ t="dict" then some false else none)
 else none
noncomputable def pD (n:String):D->Hh->R D:=fun d h=>match tyD d h with
 | some t=>match yE t n with
  | some b=>.ok (.bl b) h
  | none=>.bad
 | none=>.bad
theorem KA (r:aV K g α H h) (rd:aL K g α H d v) (e:tyD d h=some t):jz K H v (.type t):=by
 unfold tyD at e
 cases rd with
 | non=>cases e;exact .non
 | bl b=>cases e;exact .bl b
 | int i=>cases e;exact .int i
 | str i=>cases e;exact .str i
 | tup hp rs=>cases e;exact .tup hp
 | frl hp rs=>cases e;obtain⟨o,hp⟩:=hp;exact .frz hp
 | edic hp=>cases e;exact .ji hp
 | @ref n p hp=>
  simp only at e
  cases eo:h[n]? with
  | none=>simp_all
  | some o=>
   rw[eo] at e
   have q:=r.here n p o hp eo
   cases o with
   | lst ds=>cases e;obtain⟨vs,hv,_⟩:=q;exact .lst hv
   | set k=>cases e
   | dic k=>cases e;obtain⟨vs,hv,_⟩:=q;exact .dK hv
   | dit k=>cases e;obtain⟨vs,hv,_⟩:=q;exact .dT hv
 | _=>cases e
theorem DU (K):OX K (.type "int") (.type "int")=some true/\OX K (.type "bool") (.type "int")=some true/\OX K (.type "NoneType") (.type "int")=some false/\OX K (.type "str") (.type "int")=some false
  /\ OX K (.type "tuple") (.type "int")=some false/\OX K (.type "list") (.type "int")=some false/\OX K (.type "dict") (.type "int")=some false:=⟨rfl,rfl,rfl,rfl,rfl,rfl,rfl⟩
theorem Fn (e:yE t n=some b):OX K (.type t) (.type n)=some b:=by
 unfold yE at e
 obtain⟨a1,a2,a3,a4,a5,a6,a7⟩:=DU K
 split at e
 ·grind
 ·split at e
  ·rename_i hn
   split at e
   ·rename_i h;subst h;rcases hn with rfl | rfl | rfl | rfl<;>assumption
   ·rename_i hne
    split at e
    ·rename_i h;rcases hn with rfl | rfl | rfl | rfl<;>rcases h with rfl | rfl | rfl | rfl | rfl | rfl | rfl<;>first | assumption | simp_all
    grind
  grind
theorem kJ {e:Expr}{me:ME}{n:String}{x:Str}{p1 p2 pos:Pos} (he:PE X e (tM X.K g ε me)) (hg:Gl X "isinstance") (hm:X.mg "isinstance" = none) (hg2:Gl X x) (hm2:X.mg x=none) (hb:bootBuiltins x=some (.type n)) (hn:x≠"__name__" := by decide) (hd:(x == ("__debug__" : Str))=false:=by decide)
  (hs1:starEach [e,.Name x p2] X.env=(false,eval e X.env)::starEach [.Name x p2] X.env:=by rfl) (hs2:starEach [.Name x p2] X.env=[(false,eval (.Name x p2) X.env)]:=by rfl) (hpl:(backTo pos (starEach [.Name x p2] X.env)).any (·.1)=false:=by rfl) :
  PE X (.Call (.Name "isinstance" p1) [e,.Name x p2] [] pos) (tM X.K g ε (cUn (pD n) me)):=
 PE.imp (oW tY hg hm PyProof.Rows.boot_isinstance (i8 he (i8 (Eh (v:=.ty n) hg2 hm2 hb rfl hn hd) oJ hs2) hs1) (by decide) (by decide) hs1 hpl) fun σ H Q ⟨α,env,h,s,w⟩=>tM.use s w.bind fun d1 h1 v1 H1 α1 e1 s1 r1 w1=>by
  unfold pD at w1
  cases et:tyD d1 h1 with
  | none=>simp only[et] at w1;exact w1.elim
  | some t=>
   simp only[et] at w1
   cases es:yE t n with
   | none=>simp only[es] at w1;exact w1.elim
   | some b=>
    simp only[es] at w1
    exact⟨v1,.type t,n,b,rfl,KA s1.heap r1 et,Fn es,aO.now (aO.ext e1 w1) s1.heap (.bl b)⟩
end
section
variable {X:Cx}{K:ab}{g:GG}{ε:EE}
noncomputable def gR:D->Hh->R Bool:=fun d h=>match d with
 | .non=>.ok false h
 | .bl b=>.ok b h
 | .int i=>.ok (i != 0) h
 | .tup ds=>.ok (!ds.isEmpty) h
 | .frl ds=>.ok (!ds.isEmpty) h
 | .ref n=>match aG h n with
  | some ds=>.ok (!ds.isEmpty) h
  | none=>.bad
 | _=>.bad
theorem au.isEmpty (r:au K g α H ds vs):ds.isEmpty=vs.isEmpty:=by cases r<;>rfl
theorem eg:IB K g ε gR (fun x H Q=>∃k,CZ K x H k/\Q k H):=by
 intro α H h a x Q r ra w
 unfold gR at w
 have now:∀{b:Bool},lN K g α H Q b h->Q b H:=fun p=>p H α Ext.refl r
 cases ra with
 | non=>exact⟨false,rfl,now w⟩
 | bl b=>exact⟨b,rfl,now w⟩
 | int i=>exact⟨_,rfl,now w⟩
 | tup hp rs=>exact⟨_,.inr (.inl ⟨_,SqT.of hp,rfl⟩),now (by rw[<- rs.isEmpty];exact w)⟩
 | frl hp rs=>exact⟨_,.inl ⟨_,hp.sq,rfl⟩,now (by rw[<- rs.isEmpty];exact w)⟩
 | @ref n p hp=>
  simp only at w
  cases e:aG h n with
  | none=>rw[e] at w;exact w.elim
  | some ds=>
   rw[e] at w
   obtain⟨vs,hv,rs⟩:=r.lst e hp
   exact⟨_,.inl ⟨vs,SqL.of hv,rfl⟩,now (by rw[<- rs.isEmpty];exact w)⟩
 | _=>exact w.elim
theorem Ce (r:aL K g α H d v) (f:fk d=true):jq v=true:=by
 cases r<;>first | rfl | cases f
theorem Jx (r:aL K g α H d v) (q:aL K g α H e u) (f:fk d=true) (f':fk e=true):eqF d e=eqV v u:=by
 cases r<;>first | (cases f;done) | (cases q<;>rfl)
theorem EW {α:List Addr}{H:Hp}:∀{ds:List D}{vs:List V},au K g α H ds vs->ds.all fk=true->vs.all jq=true
 | _,_,.nil,_=>rfl
 | _,_,.cons r t,f=>by
  rw[Qu,NQ] at f ⊢
  exact⟨Ce r f.1,EW t f.2⟩
theorem EX (q:aL K g α H e u) (f':fk e=true):∀{ds:List D}{vs:List V},au K g α H ds vs->ds.all fk=true->(ds.any fun d=>eqF d e)=vs.any fun y=>eqV y u
 | _,_,.nil,_=>rfl
 | _,_,.cons r t,f=>by
  rw[Qu,NQ] at f
  rw[O6,O6,Jx r q f.1 f',EX q f' t f.2]
noncomputable def dIn (neg:Bool):D->D->Hh->R D:=fun a b h=>match f9 b h with
 | some ds=>if fk a=true/\ds.all fk=true then .ok (.bl (if neg then !(ds.any fun d=>eqF d a) else ds.any fun d=>eqF d a)) h else .bad
 | none=>.bad
theorem yc:dM K g ε (dIn neg) (rIn K neg):=by
 intro α H h a b x y Q r ra rb w
 unfold dIn at w
 cases e:f9 b h with
 | none=>rw[e] at w;exact w.elim
 | some ds=>
  rw[e] at w
  obtain⟨p,vs,rfl,hq,rs⟩:=mS r rb e
  obtain⟨⟨f1,f2⟩,w⟩:=WQ.dO w
  refine⟨p,vs,rfl,hq,Ce ra f1,EW rs f2,?_⟩
  have e2:(ds.any fun d=>eqF d a)=inV x vs:=EX ra f1 rs f2
  rw[<- e2]
  exact aO.now w r (.bl _)
noncomputable def zj:List D->Option (List D)
 | [.int j]=>if j.natAbs<=1000000 then some (b7 0 j.toNat) else none
 | [.int i,.int j]=>if (i.natAbs<=1000000/\j.natAbs<=1000000)/\(j - i).toNat<=1000000 then some (b7 i (j - i).toNat) else none
 | _=>none
noncomputable def e7 (nl:NL):List D->Hh->R D:=fun ds h=>match zj ds with
 | some xs=>nl xs h
 | none=>.bad
theorem Cm (lo) (n):au K g α H (b7 lo n) ((uU lo 1 n).map V.int):=by
 have e:b7 lo n=(uU lo 1 n).map D.int:=by
  unfold b7 uU
  simp
 rw[e]
 exact au.ints _
theorem D6 (r:au K g α H ds vs) (e:zj ds=some xs) :
  (∃j,vs=[.int j]/\yB 0 j 1 j.toNat/\xs=b7 0 j.toNat)\/∃i j,vs=[.int i,.int j]/\yB i j 1 (j - i).toNat/\xs=b7 i (j - i).toNat:=by
 unfold zj at e
 split at e
 ·rename_i j
  split at e
  ·rename_i hj
   cases e
   cases r with
   | cons r1 t=>
    cases r1
    cases t
    refine .inl ⟨j,rfl,?_,rfl⟩
    have:=Aw (a:=0) (b:=j) (by lia) (by lia) (by lia) (by lia) (by lia)
    simp_all
  grind
 ·rename_i i j
  split at e
  ·rename_i hj
   cases e
   cases r with
   | cons r1 t=>
    cases r1
    cases t with
    | cons r2 t=>
     cases r2
     cases t
     exact .inr ⟨i,j,rfl,Aw (by lia) (by lia) (by lia) (by lia) (by lia),rfl⟩
  grind
 grind
theorem HZ:bB X (.type "range") (fun vs H Q=>(∃j,vs=[.int j]/\∀p,H p=none->Q (.ref p) (upd H p (sA p 0 j 1)))\/∃i j,vs=[.int i,.int j]/\∀p,H p=none->Q (.ref p) (upd H p (sA p i j 1))):=bB.or yY zh
section
variable {e:Expr}{es:List Expr}{mr:MA}{p1 p2 q1 q2:Pos}
theorem oN {nl:NL} [jj nl] (hc:X.calm=true) (hg:Gl X "list") (hm:X.mg "list" = none) (hg2:Gl X "range") (hm2:X.mg "range" = none) (ha:PA X (e::es) (tMA X.K g ε mr))
  (he:starEach (e::es) X.env=(false,eval e X.env)::starEach es X.env:=by rfl) (hpl:(backTo q2 (starEach es X.env)).any (·.1)=false:=by rfl)
  (he1:starEach [.Call (.Name "range" p2) (e::es) [] q2] X.env=[(false,eval (.Call (.Name "range" p2) (e::es) [] q2) X.env)]:=by rfl) (hpl1:(backTo q1 (starEach [] X.env)).any (·.1)=false:=by rfl) :
  PE X (.Call (.Name "list" p1) [.Call (.Name "range" p2) (e::es) [] q2] [] q1) (tM X.K g ε (ah (e7 nl) mr)):=
 PE.imp (PE.frz (i7 (qc hc) hg hm PyProof.Rows.boot_list (i8 (i7 HZ hg2 hm2 PyProof.Rows.boot_range ha (by decide) (by decide) he hpl) oJ he1) (by decide) (by decide) he1 hpl1)) fun σ H Q ⟨α,env,h,s,w⟩=>tMA.use s w.bind fun d1 h1 v1 H1 α1 e1 s1 r1 w1=>by
  unfold e7 at w1
  cases er:zj d1 with
  | none=>rw[er] at w1;exact w1.elim
  | some xs=>
   rw[er] at w1
   rcases D6 r1 er with⟨j,rfl,ok,rfl⟩ | ⟨i,j,rfl,ok,rfl⟩
   ·refine .inl ⟨j,rfl,fun p hp=>⟨p,0,j,1,j.toNat,rfl,bp,ok,fun l hl=>?_⟩⟩
    have x:=Ext.fresh (K:=X.K) (α:=α1) (o:=sA p 0 j 1) hp
    exact NL.post ((w1.post e1).post x) (s1.heap.grow hp) (Cm 0 j.toNat) hl
   ·refine .inr ⟨i,j,rfl,fun p hp=>⟨p,i,j,1,(j - i).toNat,rfl,bp,ok,fun l hl=>?_⟩⟩
    have x:=Ext.fresh (K:=X.K) (α:=α1) (o:=sA p i j 1) hp
    exact NL.post ((w1.post e1).post x) (s1.heap.grow hp) (Cm i (j - i).toNat) hl
end
noncomputable def isL (d:D) (h:Hh):Bool:=match d with
 | .ref n=>(aG h n).isSome
 | .frl _=>true
 | _=>false
noncomputable def g_ (f:D->List D->Hh->R D) (o:ME) (a:MA):ME:=fun env h=>(o env h).bind fun x h1=>if isL x h1=true then (a env h1).bind fun xs h2=>f x xs h2 else .bad
theorem CA (r:aV K g α H h) (rd:aL K g α H d x) (e:isL d h=true):tyV K "list" x H:=by
 unfold isL at e
 cases rd with
 | @ref n p hp=>
  obtain⟨ds,e⟩:=Pu.mp e
  obtain⟨vs,hv,_⟩:=r.lst e hp
  exact .inl ⟨rfl,vs,SqL.of hv⟩
 | frl hq rs=>exact .inl ⟨rfl,_,hq.sq⟩
 | _=>cases e
theorem wG {o e:Expr}{es:List Expr}{mo:ME}{mr:MA}{name:Str}{apos cpos:Pos}{id:String}{r:V->List V->Hp->VK->Prop}{f:D->List D->Hh->R D} (slot:Slot "list" name id) (hty:typeOf (.builtin id)=pure (.type "method_descriptor")) (hm:MtM X id r) (im:Aa X.K g ε f r) (ho:PE X o (tM X.K g ε mo)) (ha:PA X (e::es) (tMA X.K g ε mr))
  (hbase:attributeBase o name X.env (eval o X.env)=eval o X.env:=by rfl)
  (hfew:((backTo cpos (starEach (e::es) X.env)).all (fun x=>!x.1)&&(backToKw cpos (keywordEach [] X.env)).all (fun x=>x.1.isSome)
   && decide ((e::es).length+([]:List Sf).length+(if ([]:List Sf).isEmpty then 0 else 1)<30))=true:=by rfl)
  (hline:(apos.endLine == cpos.line)=true:=by rfl) (hs:starEach (e::es) X.env=(false,eval e X.env)::starEach es X.env:=by rfl) (hplain:(backTo cpos (starEach es X.env)).any (·.1)=false:=by rfl) :
  PE X (.Call (.Attribute o name apos) (e::es) [] cpos) (tM X.K g ε (g_ f mo mr)):=
 PE.imp (E6 PySem.F.plainAttrs_list slot hty hm ho ha hbase hfew hline hs hplain) fun σ H Q ⟨α,env,h,s,w⟩=>tM.use s w.bind fun d1 h1 v1 H1 α1 e1 s1 r1 w1=>by
  obtain⟨hl,w1⟩:=WQ.dO w1
  refine⟨CA s1.heap r1 hl,tMA.use s1 (w1.ext e1).bind fun d2 h2 v2 H2 α2 e2 s2 r2 w2=>?_⟩
  exact im α2 H2 h2 d1 d2 v1 v2 Q s2.heap (r1.ext e2) r2 ((w2.ext e2).mono fun _ _ _ p=>aO.ext (e1.trans e2) p)
noncomputable def rV:D->List D->Hh->R D:=fun o ds h=>match o,ds with
 | .ref n,[d]=>match aG h n with
  | some xs=>if xs.length<1000000 then .ok .non (h.set n (.lst (xs++[d]))) else .bad
  | none=>.bad
 | _,_=>.bad
theorem zJ:Aa K g ε rV yV:=by
 intro α H h o a y x Q r ro ra w
 unfold rV at w
 cases ro with
 | @ref n p hp=>
  cases ra with
  | nil=>exact w.elim
  | @cons d v _ _ rd rr=>
   cases rr with
   | cons _ _=>exact w.elim
   | nil=>
    simp only at w
    cases e:aG h n with
    | none=>rw[e] at w;exact w.elim
    | some xs=>
     rw[e] at w
     obtain⟨hl,w⟩:=WQ.dO w
     obtain⟨vs,hv,rs⟩:=r.lst e hp
     refine⟨p,vs,_,rfl,rfl,hv,by rw[<- rs.length,Oi];lia,?_⟩
     have x:=Ext.write (o:=.lst (vs++[v])) r hp
     exact(show aO K g α H Q _ _ from w) _ _ α x (r.write hp ⟨_,bp,(rs.append (.cons rd .nil)).ext x⟩) .non
 | _=>exact w.elim
noncomputable def vL:D->List D->Hh->R D:=fun o ds h=>match o,ds with
 | .ref n,[.int i]=>match aG h n with
  | some xs=>match ixN xs.length i with
   | some k=>match xs[k]? with
    | some d=>if xs.length<=1000000 then .ok d (h.set n (.lst (xs.eraseIdx k))) else .bad
    | none=>.bad
   | none=>.bad
  | none=>.bad
 | _,_=>.bad
theorem Ih:Aa K g ε vL BU:=by
 intro α H h o a y x Q r ro ra w
 unfold vL at w
 cases ro with
 | @ref n p hp=>
  cases ra with
  | nil=>exact w.elim
  | cons rd rr=>
   cases rr with
   | cons _ _=>cases rd<;>exact w.elim
   | nil=>
    cases rd with
    | int i=>
     simp only at w
     cases e:aG h n with
     | none=>rw[e] at w;exact w.elim
     | some xs=>
      rw[e] at w
      simp only at w
      cases e2:ixN xs.length i with
      | none=>rw[e2] at w;exact w.elim
      | some k=>
       rw[e2] at w
       simp only at w
       cases e3:xs[k]? with
       | none=>rw[e3] at w;exact w.elim
       | some d=>
        rw[e3] at w
        obtain⟨hl,w⟩:=WQ.dO w
        obtain⟨vs,hv,rs⟩:=r.lst e hp
        obtain⟨v,ev,rv⟩:=rs.get e3
        obtain⟨h1,h2,h3,h4⟩:=rK e2
        refine⟨p,vs,i,k,v,rfl,rfl,hv,?_,?_,by rw[<- rs.length];exact h1,ev,?_⟩
        ·lia
        ·lia
        ·have x:=Ext.write (o:=.lst (vs.eraseIdx k)) r hp
         exact(show aO K g α H Q _ _ from w) _ _ α x (r.write hp ⟨_,bp,(rs.erase k).ext x⟩) (rv.ext x)
    | _=>exact w.elim
 | _=>exact w.elim
theorem lM (ns:List Int):∀k,k<=ns.length->preSum (fun i=>ns.getD i 0) k=(ns.take k).sum
 | 0,_=>by rfl
 | k+1,h=>by
  rw[preSum,lM ns k (by lia),List.take_succ,List.sum_append]
  grind
theorem Ak (hc:X.calm=true):bB X (.builtin "sum") (fun vs H Q=>∃(p:Addr) (ns:List Int),vs=[.ref p]/\(SqL X.K H p (ns.map V.int)\/SqT X.K H p (ns.map V.int))/\Q (.int ns.sum) H):=by
 intro pins s σ H xs us Q I r h
 obtain⟨p,ns,rfl,hq,q⟩:=h
 obtain⟨u,rfl,rx⟩:=vals1 r
 cases rx
 have hh:X.A.in1.handled=none:=I.ok.hd hc
 have fin:∀{its:List Ng} {o:Obj},Vals (ns.map V.int) its->∀s',Moved [s.heap.objs.size] (fun a b=>b=a) { s with heap:=s.heap.push o } s'->∀t',EP X pins σ Q (.int (preSum (fun i=>ns.getD i 0) its.toArray.size) t') s':=fun{its o} rv s' mv t'=>by
  have hl:its.toArray.size=ns.length:=by rw[NB,<- rv.length,Nw]
  have keep:=fun b u e=>mv.heap b u (by simp;exact NA (Nh e)) (k3 _ e)
  have I':Inv X pins σ H s':=by
   obtain⟨hp,gs,dr,tk,os⟩:=s'
   have e1:=mv.gens
   have e2:=mv.drawn
   have e3:=mv.os
   subst e1 e2 e3
   exact I.kept keep
  refine⟨.int ns.sum,H,I',⟨t',?_⟩,q⟩
  rw[hl,lM ns _ (Ni _),List.take_length]
 have val:∀{its:List Ng},Vals (ns.map V.int) its->∀i v,its.toArray[i]?=some v->∃t:Tok,v=Pr (ns.getD i 0) t:=fun{its} rv i v e=>by
  obtain⟨x,hx,rxv⟩:=rv.get' (show its[i]?=some v by simp_all)
  rw[NN] at hx
  cases en:ns[i]? with
  | none=>simp_all
  | some z=>
   rw[en] at hx
   cases hx
   obtain⟨t,e⟩:=rxv
   simp_all
 rcases hq with hq | hq
 ·obtain⟨its,rv,pl,hz⟩:=I.list hq
  have plt:p<s.heap.objs.size:=by obtain⟨o,e,_⟩:=pl.isList;exact Nh e
  have hne:=NA plt
  refine call_sum_walkAnyS (RH pl.isList ?_)
  refine⟨s.heap.objs.size,_,_,_,its.toArray.size,_,_,fun i=>ns.getD i 0,rfl,(Tf.list hh s.heap.objs.size p hne its.toArray).toS,⟨⟨_,Nm _ rfl,rfl,rfl⟩,?_⟩,fun b hb=>?_,val rv,fun s' t' mv=>fin rv s' mv t'⟩
  ·exact pl.isList.at fun o e=>k3 _ e
  ·simp at hb
   rcases hb with rfl | rfl
   ·simp
   ·exact Rv plt (Nh (Nm _ rfl))
 ·obtain⟨its,rv,pl,hz⟩:=I.tuple hq
  have pt:s.heap.IsTuple p its.toArray:=pl
  have hne:=NA pl.lt
  refine call_sum_walkAnyS (PN pt ?_)
  refine⟨s.heap.objs.size,_,_,_,its.toArray.size,_,_,fun i=>ns.getD i 0,rfl,(Tf.tuple hh s.heap.objs.size p hne its.toArray).toS,⟨⟨_,Nm _ rfl,rfl,rfl⟩,?_⟩,fun b hb=>?_,val rv,fun s' t' mv=>fin rv s' mv t'⟩
  ·exact pt.at fun o e=>k3 _ e
  ·simp at hb
   rcases hb with rfl | rfl
   ·simp
   ·exact Rv pl.lt (Nh (Nm _ rfl))
noncomputable def Cn:List D->Hh->R D:=fun ds h=>match ds with
 | [d]=>match f9 d h with
  | some xs=>match intsOf xs with
   | some ns=>.ok (.int ns.sum) h
   | none=>.bad
  | none=>.bad
 | _=>.bad
theorem Ij:kl K g ε Cn (fun vs H Q=>∃(p:Addr) (ns:List Int),vs=[.ref p]/\(SqL K H p (ns.map V.int)\/SqT K H p (ns.map V.int))/\Q (.int ns.sum) H):=by
 intro α H h a x Q r ra w
 obtain⟨d,v,rfl,rfl,rd⟩:=jG (fun _ _ _ _=>rfl) (fun _=>rfl) ra w
 unfold Cn at w
 simp only at w
 cases e:f9 d h with
 | none=>rw[e] at w;exact w.elim
 | some ds=>
  rw[e] at w
  simp only at w
  cases e2:intsOf ds with
  | none=>rw[e2] at w;exact w.elim
  | some ns=>
   rw[e2] at w
   obtain⟨p,vs,rfl,hq,rs⟩:=mS r rd e
   have e3:=dI e2
   subst e3
   have e4:=rs.vM
   subst e4
   exact⟨p,ns,rfl,hq,aO.now w r (.int _)⟩
theorem DN:PIp X .Mult (fun x y H Q=>∃i j,x=.int i/\y=.int j/\(sml i=true/\sml j=true)/\Q (.int (i*j)) H):=by
 intro pins s σ H x y v u Q I r1 r2 h
 obtain⟨i,j,e1,e2,hc,q⟩:=h
 subst e1;subst e2
 obtain⟨t,rfl⟩:=r1
 obtain⟨t',rfl⟩:=r2
 exact imul_int ⟨.int _,H,I.tok _,⟨_,rfl⟩,q⟩ (IntMulOk.of_bits (NT (iK hc.1) (by decide)) (NT (iK hc.2) (by decide)))
noncomputable def ES:D->D->Hh->R D
 | .int i,.int j,h=>.ok (.int (i+j)) h
 | _,_,_=>.bad
noncomputable def EU:D->D->Hh->R D
 | .int i,.int j,h=>if sml i=true/\sml j=true then .ok (.int (i*j)) h else .bad
 | _,_,_=>.bad
theorem Hm:dM K g ε ES (ipI fun i j=>i+j):=by
 intro α H h a b x y Q r ra rb w
 cases ra with
 | int i=>
  cases rb with
  | int j=>exact⟨i,j,rfl,rfl,aO.now w r (.int _)⟩
  | _=>exact w.elim
 | _=>exact w.elim
theorem GW:dM K g ε EU (fun x y H Q=>∃i j,x=.int i/\y=.int j/\(sml i=true/\sml j=true)/\Q (.int (i*j)) H):=by
 intro α H h a b x y Q r ra rb w
 cases ra with
 | int i=>
  cases rb with
  | int j=>
   obtain⟨hc,w⟩:=WQ.dO w
   exact⟨i,j,rfl,rfl,hc,aO.now w r (.int _)⟩
  | _=>exact w.elim
 | _=>exact w.elim
end
section
variable {P:NC}{w:N4}{K:ab}{mg:Str->Option Ng}{base:Heap}{g:GG}
noncomputable def az (K:ab) (mg:Str->Option Ng) (x:Str) (st:Stmt):Prop:=∃f fd,mg x=some (.ref f)/\Fun K x x st f fd
noncomputable def br (K:ab) (x:Str) (st:Stmt):Prop:=∃f fd,NX K mainGlobals x=some (some (.ref f))/\Fun K x x st f fd
theorem HV {st:Stmt}{kV doc pm cdv ct:Ng} (a:NX K mainGlobals x=some (some (.ref f)))
  (l:K.lookup f=some ⟨oc,od,.func (Oh x x (dv st) (b8 st) (ak st) .none kV doc pm an cdv ct),osl⟩) (c:PK K cdv x=true) (k:Oy K (.ref f)=true):br K x st:=⟨f,_,a,wx l c k⟩
theorem az.of {h:Heap}{x:Str}{st:Stmt} (X:K.In h) (G:h.Ns mainGlobals mg) (d:br K x st):az K mg x st:=
 let ⟨f,fd,a,F⟩:=d;⟨f,fd,P4 X G a,F⟩
noncomputable def Has (P:NC) (w:N4) (K:ab) (mg:Str->Option Ng) (base:Heap) (g:GG) (x:Str) (k:Nat) (ps:List Str) (m:MF):Prop:=
 ∃f fd,dJ P w K mg base CX0 k f fd ps (spM K g ps.length m)/\Oy K (.ref f)=true/\Binds K fd ps []/\mg x=some (.ref f)/\∃oc od osl,K.lookup f=some ⟨oc,od,.func fd,osl⟩
noncomputable def gOf (mg:Str->Option Ng):GG:=fun x=>match mg x with
 | some (.ref f)=>some f
 | _=>none
theorem cb {st:Stmt} (F:Fun K x x st f fd):∃oc od osl,K.lookup f=some ⟨oc,od,.func fd,osl⟩:=by
 obtain⟨oc,od,kV,doc,pm,an,cdv,ct,osl,rfl,lk,hcd⟩:=F.ex
 simp_all
theorem FN {st:Stmt} (F:Fun K x x st f fd) (hm:mg x=some (.ref f)) (h:Has P w K mg base g x k ps m):dJ P w K mg base CX0 k f fd ps (spM K g ps.length m):=by
 obtain⟨f2,fd2,G,_,_,hm2,oc,od,osl,l2⟩:=h
 obtain⟨oc',od',osl',l1⟩:=cb F
 simp_all
end
section
variable {X:Cx}{g:GG}{ε:EE}
noncomputable def JC (i j:Nat) (m:ME):MS:=fun env h=>(m env h).bind fun d h1=>(gT2 i j d env h1).bind fun e h2=>.ok (.nx e) h2
theorem Kh {i j:Nat}{x y:Str}{e:Expr}{me:ME}{px py pt pos:Pos}{kt} (hc:X.calm=true) (hN:X.N.Nodup) (hi:X.N[i]?=some x) (hj:X.N[j]?=some y) (he:PE X e (tM X.K g ε me))
  (hx:Loc X.env.scope x:=by first | exact SW rfl | exact Te rfl) (hy:Loc X.env.scope y:=by first | exact SW rfl | exact Te rfl)
  (fx:X.fn x=true\/X.env.scope.names.lookup x=some .local:=by first | exact .inl rfl | exact .inr rfl) (fy:X.fn y=true\/X.env.scope.names.lookup y=some .local:=by first | exact .inl rfl | exact .inr rfl)
  (hs:swapsWithSole [.Tuple [.Name x px,.Name y py] kt pt] e pos.line X.env=pure false:=by rfl) (hw:swappedStores [.Tuple [.Name x px,.Name y py] kt pt] e X.env=pure none:=by rfl) :
  PS X (.Assign [.Tuple [.Name x px,.Name y py] kt pt] e pos) (tMS X.K g ε (JC i j me)):=
 PS.imp (AI he (oq hc (dn (ir hN hi hx fx) (dn (ir hN hj hy fy) km))) hs hw rfl) fun E σ H ⟨α,env,h,s,w⟩=>tM.use s w.bind fun d1 h1 v1 H1 α1 e1 s1 r1 w1=>by
  refine oz α1 H1 h1 env σ d1 v1 _ s1 r1 ((w1.ext e1).bind.mono fun e' h2 _ w2 σ2 H2 α2 e2 s2=>?_)
  exact(show cp X.K g α H E (.nx e') h2 from w2) H2 α2 (e1.trans e2) s2.heap σ2 s2.vs
theorem B3 {px py pt pos:Pos}{kt k2 pt2} (hc:X.calm=true) (hN:X.N.Nodup) (hi:X.N[i]?=some x) (hj:X.N[j]?=some y) (hij:i≠j) (ha:PA X [a,b] (tMA X.K g ε ma))
  (hx:X.env.scope.names.lookup x=some .local:=by rfl) (hy:X.env.scope.names.lookup y=some .local:=by rfl)
  (hw:swappedStores [.Tuple [.Name x px,.Name y py] kt pt] (.Tuple [a,b] k2 pt2) X.env=pure (some [x,y]):=by rfl)
  (hs:swapsWithSole [.Tuple [.Name x px,.Name y py] kt pt] (.Tuple [a,b] k2 pt2) pos.line X.env=pure false:=by rfl) :
  PS X (.Assign [.Tuple [.Name x px,.Name y py] kt pt] (.Tuple [a,b] k2 pt2) pos) (tMS X.K g ε (zf i j ma)):=Kc hc hN hi hj hij hx hy ha hw hs
end
section
variable {X:Cx}{K:ab}{g:GG}{ε:EE}
noncomputable def IM:D->D->Hh->R D:=fun a b h=>match a with
 | .ref n=>dIx (.ref n) b h
 | _=>.bad
noncomputable def Ar (o i v:ME):MS:=fun env h=>(o env h).bind fun x h1=>(i env h1).bind fun y h2=>(IM x y h2).bind fun z h3=>(v env h3).bind fun u h4=>(ES z u h4).bind fun t h5=>(jL x y t h5).bind fun _ h6=>.ok (.nx env) h6
theorem Dg:Ka X (fun x y H Q=>HX X.K x y H Q):=by
 intro pins s σ H o i ov iv Q I ro ri h
 obtain⟨p,xs,k,z,rfl,rfl,hq,he,q⟩:=h
 cases ro
 obtain⟨t,rfl⟩:=ri
 obtain⟨its,r,pl,hz⟩:=I.list hq
 obtain⟨j,h1,h2,h3,h4,h5⟩:=mX he
 obtain⟨w,ew,rw'⟩:=r.get h2
 have hl:=r.length
 have hn:=iO
 have fin:EP X pins σ Q w s:=⟨z,H,I,rw',q⟩
 by_cases h0:0<=k
 ·have hj:k.toNat=j:=by
   rw[Se h0 h5] at h1
   simp_all
  exact wpAny_getItem_list pl.isList h0 (by lia) (by simp_all) fin
 ·have hj:(k+(its.toArray.size:Int)).toNat=j:=by
   rw[RT (by lia) h4] at h1
   simp_all
  exact wpAny_getItem_list_neg pl.isList (by lia) (by simp_all) (by lia) (by simp_all) fin
theorem DV {o i e:Expr}{mo mi me:ME}{tpos pos:Pos} (ho:PE X o (tM X.K g ε mo)) (hi:PE X i (tM X.K g ε mi)) (he:PE X e (tM X.K g ε me))
  (ha:∀ov iv new,augStore i ov iv new=(do holding [new,ov,iv] (setItem ov iv new);release [new,ov,iv] [];pure .next):=by intros;rfl):PS X (.AugAssign (.Subscript o i tpos) .Add e pos) (tMS X.K g ε (Ar mo mi me)):=
 PS.imp (CS ho hi Dg he FP set_list ha) fun E σ H ⟨α,env,h,s,w⟩=>tM.use s w.bind fun d1 h1 v1 H1 α1 e1 s1 r1 w1=>tM.use s1 (w1.ext e1).bind fun d2 h2 v2 H2 α2 e2 s2 r2 w2=>by
  have w3:=(w2.ext e2).bind
  have r1':=r1.ext e2
  unfold IM at w3
  cases r1' with
  | @ref n p hp=>
   simp only[dIx] at w3
   cases eq:f9 (.ref n) h2 with
   | none=>simp only[eq] at w3;exact w3.elim
   | some ds=>
    simp only[eq] at w3
    cases r2 with
    | int k=>
     cases ea:atI ds k with
     | none=>simp only[ea] at w3;exact w3.elim
     | some z=>
      simp only[ea] at w3
      have w4:=w3
      have eq':=eq
      obtain⟨vs',hv',rs'⟩:=s2.heap.lst eq' hp
      obtain⟨v',ev',rv'⟩:=xX rs' ea
      refine⟨p,vs',k,v',rfl,rfl,SqL.of hv',ev',tM.use s2 w4.bind fun d3 h3 v3 H3 α3 e3 s3 r3 w5=>?_⟩
      refine Hm α3 H3 h3 z d3 v' v3 _ s3.heap (rv'.ext e3) r3 ((w5.ext e3).bind.mono fun t h4 _ w6 v4 H4 α4 e4 hr4 r4=>?_)
      refine ou α4 H4 h4 (.ref n) (.int k) t (.ref p) (.int k) v4 _ hr4 (.ref ((e3.trans e4).get hp)) (.int k) r4 (((w6.ext e4)).bind.mono fun _ h5 _ w7 H5 α5 e5 hr5=>?_)
      exact(show cp X.K g α H E (.nx env) h5 from w7) H5 α5 (e1.trans (e2.trans (e3.trans (e4.trans e5)))) hr5 _ (s3.vs.ext (e4.trans e5))
    | _=>exact w3.elim
  | _=>exact w3.elim
end
mutual
noncomputable def iB (k:Nat):D->Bool
 | .ref n=>decide (n<k)
 | .tup ds=>bT k ds
 | .frl ds=>bT k ds
 | .scr ds=>bT k ds
 | .clo _ ds=>bT k ds
 | _=>true
noncomputable def bT (k:Nat):List D->Bool
 | []=>true
 | d::ds=>iB k d&&bT k ds
end
noncomputable def wc (k:Nat):O->Bool
 | .lst ds=>bT k ds
 | .set _=>true
 | .dic kvs=>bT k (kvs.map (·.2))
 | .dit kvs=>bT k (kvs.map (·.2))
noncomputable def k9 (f:D->Option D):List D->Option (List D)
 | []=>some []
 | d::ds=>match f d,k9 f ds with
  | some e,some es=>some (e::es)
  | _,_=>none
noncomputable def ji (k:Nat) (h:Hh):Nat->D->Option D
 | 0,_=>none
 | f+1,d=>match d with
  | .ref n=>if n<k then some (.ref n) else match aG h n with
   | some ds=>(k9 (ji k h f) ds).map .frl
   | none=>none
  | .tup ds=>(k9 (ji k h f) ds).map .tup
  | .frl ds=>(k9 (ji k h f) ds).map .frl
  | .scr _=>none
  | .clo f ds=>if bT 0 ds=true then some (.clo f ds) else none
  | d=>some d
noncomputable def di (h:Hh):D->Hh->R D:=fun d h'=>if (h'.take h.length).all (wc h.length)=true then match ji h.length h' 8 d with
 | some e=>.ok e (h'.take h.length)
 | none=>.bad else .bad
open Classical in
noncomputable def j7 (S:Addr->Prop) (o:Addr->Obj) (H:Hp):Hp:=fun p=>if S p then (H p).map (.frz (o p)) else H p
theorem Ft (q:bK P w H h p u) (mu:Mut (some u)):∃o,h.get? p=some o:=by
 cases u with
 | lst xs=>obtain⟨_,_,_,_,e'⟩:=q;simp_all
 | dK kvs=>obtain⟨_,_,_,_,o,_,_,e',_⟩:=q;simp_all
 | dT kvs=>obtain⟨_,_,_,_,o,_,_,e',_⟩:=q;simp_all
 | set S n=>obtain⟨o,_,_,_,e',_⟩:=q;simp_all
 | ins C dx fs=>obtain⟨_,_,_,e',_⟩:=q;simp_all
 | ext φ=>obtain⟨_,⟨_,e'⟩,_⟩:=q;simp_all
 | _=>exact absurd mu (fun z=>z)
theorem HW (h:CE outer P w H s Q' u s')
  (hQ:∀v H',Q' v H'->∃S:Addr->Prop,(∀p,S p->∃u,H' p=some u/\Mut (some u))/\∀o:Addr->Obj,Q v (j7 S o H')):CE outer P w H s Q u s':=by
 obtain⟨v,H',os,bare,un,hok,r,q⟩:=h
 obtain⟨S,hS,q⟩:=hQ v H' q
 have hS1:∀p,S p->∀u,H' p=some u->Mut (some u):=fun p z u e=>by grind
 have off:∀(o:Addr->Obj) b u,H' b=some u->¬ Mut (some u)->j7 S o H' b=some u:=fun o b u e m=>by
  unfold j7
  grind
 have offn:∀(o:Addr->Obj) b,H' b=none->j7 S o H' b=none:=fun o b e=>by
  unfold j7
  simp_all
 let o:Addr->Obj:=fun b=>(s'.heap.get? b).getD { cls:=.none,data:=.fields #[] }
 refine⟨v,j7 S o H',os,bare,⟨un.keep,un.slot,fun b ob e n hx=>offn o b (un.free b ob e n hx),un.there,fun b xs e=>off o b _ (un.j3 b xs e) fun z=>z,fun b ob xs e=>off o b _ (un.kL b ob xs e) fun z=>z,fun b ps e=>?_⟩,?_,r,q o⟩
 ·obtain⟨more,e1⟩:=un.my b ps e
  exact⟨more,off o b _ e1 fun z=>z⟩
 ·intro b u e
  have st:∀u,bK P w H' s'.heap b u->bK P w (j7 S o H') s'.heap b u:=fun u x=>x.kW (fun _ _ _ z=>z) (fun c z=>off o c _ z fun z=>z) fun c xs z=>off o c _ z fun z=>z
  unfold j7 at e
  split at e
  ·rename_i hb
   obtain⟨u',e',m⟩:=hS b hb
   rw[e'] at e
   cases e
   have x:=hok b u' e'
   obtain⟨ob,eo⟩:=Ft x m
   refine⟨?_,st _ x⟩
   grind
  ·exact st u (hok b u e)
section
variable {K:ab}{g:GG}{α α':List Addr}{H H' H2:Hp}{k:Nat}
structure u4 (K:ab) (α α':List Addr) (H' H2:Hp) (k:Nat):Prop where
 pre:∀n,n<k->α[n]?=α'[n]?
 tup:∀p xs,H' p=some (.tup xs)->H2 p=some (.tup xs)
 frz:∀p o u , H' p=some (.frz o u)->H2 p=some (.frz o u)
mutual
theorem m7 (L:u4 K α α' H' H2 k):∀{d:D}{v:V},iB k d=true->aL K g α' H' d v->aL K g α H2 d v
 | _,_,_,.non=>.non
 | _,_,_,.bl b=>.bl b
 | _,_,_,.int i=>.int i
 | _,_,_,.str x=>.str x
 | _,_,hl,.ref h=>.ref (by rw[L.pre _ (by simpa [iB] using hl)];exact h)
 | _,_,hl,.tup h r=>.tup (L.tup _ _ h) (eO L (by assumption) r)
 | _,_,hl,.frl h r=>.frl (let ⟨o,h⟩:=h;⟨o,L.frz _ _ _ h⟩) (eO L (by assumption) r)
 | _,_,hl,.scr h r=>.scr (h.elim (fun⟨o,h⟩=>.inl ⟨o,L.frz _ _ _ h⟩) .inr) (eO L (by assumption) r)
 | _,_,_,.fn h=>.fn h
 | _,_,_,.edic h=>.edic (L.frz _ _ _ h)
 | _,_,_,.exc hg h hc hd hf=>.exc hg (L.frz _ _ _ h) hc hd (hf.elim .inl fun⟨dx,od,a,b⟩=>.inr ⟨dx,od,a,L.frz _ _ _ b⟩)
 | _,_,hl,.clo h l hc hd hv cs r=>.clo (L.frz _ _ _ h) l (L.frz _ _ _ hc) hd hv (L2.Paired.pO cs fun _ _ ⟨c,o,u,l,a,b⟩=>⟨c,o,u,l,L.frz _ _ _ a,b⟩) (eO L (by assumption) r)
theorem eO (L:u4 K α α' H' H2 k):∀{ds:List D}{vs:List V},bT k ds=true->au K g α' H' ds vs->au K g α H2 ds vs
 | _,_,_,.nil=>.nil
 | _,_,hl,.cons r t=>by
  simp only[bT,NQ] at hl
  exact .cons (m7 L hl.1 r) (eO L hl.2 t)
end
theorem jP {f:D->Option D} (hf:∀d e v,f d=some e->aL K g α' H' d v->aL K g α H2 e v):∀{ds es:List D}{vs:List V},k9 f ds=some es->au K g α' H' ds vs->au K g α H2 es vs
 | [],es,_,e,.nil=>by cases e;exact .nil
 | d::ds,es,_,e,.cons r t=>by
  unfold k9 at e
  split at e
  ·rename_i e1 es1 h1 h2
   cases e
   exact .cons (hf _ _ _ h1 r) (jP hf h2 t)
  grind
theorem m8 {h' hx:Hh} (L:u4 K α α' H' H2 k) (r:aV K g α' H' h') (hx':∀n ds,aG hx n=some ds->aG h' n=some ds) (fz:∀n p ds vs,k<=n->aG hx n=some ds->α'[n]?=some p->H' p=some (.lst vs)->Fr1 H2 p vs) :
  ∀(f:Nat) (d e:D) (v:V),ji k hx f d=some e->aL K g α' H' d v->aL K g α H2 e v
 | 0,_,_,_,e,_=>by cases e
 | f+1,d,e,v,he,rd=>by
  unfold ji at he
  cases rd with
  | non=>cases he;exact .non
  | bl b=>cases he;exact .bl b
  | int i=>cases he;exact .int i
  | str x=>cases he;exact .str x
  | fn h=>cases he;exact .fn h
  | edic h=>cases he;exact .edic (L.frz _ _ _ h)
  | exc hg h hc hd hf=>cases he;exact .exc hg (L.frz _ _ _ h) hc hd (hf.elim .inl fun⟨dx,od,a,b⟩=>.inr ⟨dx,od,a,L.frz _ _ _ b⟩)
  | scr _ _=>cases he
  | clo h l hc hd hv cs rs=>
   simp only at he
   split at he
   ·rename_i lo
    cases he
    exact .clo (L.frz _ _ _ h) l (L.frz _ _ _ hc) hd hv (L2.Paired.pO cs fun _ _ ⟨c,o,u,l,a,b⟩=>⟨c,o,u,l,L.frz _ _ _ a,b⟩) (eO ⟨fun n hn=>absurd hn (Qw _),L.tup,L.frz⟩ lo rs)
   grind
  | tup h rs=>
   simp only at he
   cases e1:k9 (ji k hx f) _ with
   | none=>rw[e1] at he;cases he
   | some es=>rw[e1] at he;cases he;exact .tup (L.tup _ _ h) (jP (fun d e v=>m8 L r hx' fz f d e v) e1 rs)
  | frl h rs=>
   simp only at he
   cases e1:k9 (ji k hx f) _ with
   | none=>rw[e1] at he;cases he
   | some es=>rw[e1] at he;cases he;exact .frl (let ⟨o,h⟩:=h;⟨o,L.frz _ _ _ h⟩) (jP (fun d e v=>m8 L r hx' fz f d e v) e1 rs)
  | @ref n p hp=>
   simp only at he
   split at he
   ·rename_i hn
    cases he
    exact .ref (by rw[L.pre n hn];exact hp)
   ·rename_i hn
    cases el:aG hx n with
    | none=>simp_all
    | some ds=>
     rw[el] at he
     simp only at he
     cases e1:k9 (ji k hx f) ds with
     | none=>simp_all
     | some es=>
      rw[e1] at he;cases he
      obtain⟨vs,hv,rs⟩:=r.lst (hx' n ds el) hp
      exact .frl (fz n p ds vs (by lia) el hp hv) (jP (fun d e v=>m8 L r hx' fz f d e v) e1 rs)
end
theorem uk {β:Type}{l:List β}{k n:Nat}{x:β} (e:(l.take k)[n]?=some x):n<k/\l[n]?=some x:=by
 rw[PR] at e
 split at e
 ·exact⟨by assumption,e⟩
 ·cases e
theorem yH {α α':List Addr} (h:α <+: α'){n:Nat} (hn:n<α.length):α[n]?=α'[n]?:=by
 obtain⟨t,rfl⟩:=h
 rw[Nq hn]
theorem Dd {β:Type}{l:List β}{f:β->Bool} (h:l.all f=true){n:Nat}{x:β} (e:l[n]?=some x):f x=true:=NU.mp h x (NP e)
theorem AQ {K:ab}{g:GG}{h h':Hh} (r0:α.length=h.length) (e:Ext K α H α' H') (r:aV K g α' H' h') (hl:(h'.take h.length).all (wc h.length)=true)
  (L:u4 K α2 α' H' H2 h.length) (kp:∀n p u,n<h.length->α'[n]?=some p->H' p=some u->H2 p=some u):∀n p o , n<h.length->α'[n]?=some p->(h'.take h.length)[n]?=some o->OAt K g α2 H2 p o:=by
 intro n p o hn hp ho
 have lo:=Dd hl ho
 obtain⟨_,ho'⟩:=uk ho
 have q:=r.here n p o hp ho'
 cases o with
 | lst ds=>obtain⟨vs,a,b⟩:=q;exact⟨vs,kp n p _ hn hp a,eO L lo b⟩
 | set m=>exact kp n p _ hn hp q
 | dic kvs=>
  obtain⟨kws,a,b⟩:=q
  refine⟨kws,kp n p _ hn hp a,?_⟩
  replace lo:bT h.length (kvs.map (·.2))=true:=lo
  clear a ho ho'
  induction b with
  | nil=>exact .nil
  | cons x t ih=>
   simp only[ND,bT,NQ] at lo
   exact .cons ⟨x.1,m7 L lo.1 x.2⟩ (ih lo.2)
 | dit kvs=>
  obtain⟨kws,a,b⟩:=q
  refine⟨kws,kp n p _ hn hp a,?_⟩
  replace lo:bT h.length (kvs.map (·.2))=true:=lo
  clear a ho ho'
  induction b with
  | nil=>exact .nil
  | cons x t ih=>
   simp only[ND,bT,NQ] at lo
   exact .cons ⟨x.1,m7 L lo.1 x.2⟩ (ih lo.2)
section
variable {P:NC}{w:N4}{K:ab}{mg:Str->Option Ng}{base:Heap}{g:GG}{k np:Nat}{f:Addr}{fd:Qr}{ps:List Str}{m:MF}
theorem mV {CX:CXT}{ε:XK->EE} (F:dJ P w K mg base CX k f fd ps (spG K g ε np m)):dJ P w K mg base CX k f fd ps (spG K g ε np fun ds h=>(m ds h).bind (di h)):=by
 refine⟨fun vs H Q E h=>?_,fun A outer s H args us vs Q E hr e0 hb hv hsp=>?_⟩
 ·obtain⟨hl,α,ds,h,rs,hh,w⟩:=h
  exact F.len vs H (fun _ _=>True) E ⟨hl,α,ds,h,rs,hh,w.bind.mono fun _ _ _ _ _ _ _ _ _ _=>trivial⟩
 ·obtain⟨hl,α,ds,h,rs,hh,w⟩:=hsp
  refine O_ (F.run A outer s H args us vs (fun v H'=>∃α' d h',Ext K α H α' H'/\aV K g α' H' h'/\aL K g α' H' d v/\WQ K g (ε E) α H (di h d h') (aO K g α H Q)) E hr e0 hb hv ⟨hl,α,ds,h,rs,hh,w.bind.mono fun d h' _ w1 v H' α' e r rd=>⟨α',d,h',e,r,rd,w1⟩⟩) fun res s' q=>?_
  cases res with
  | error e=>exact q
  | ok fl=>
   cases fl with
   | ret u=>
    refine HW (show CE outer P _ H s _ u s' from q) fun v H' ⟨α',d,h',e,r,rd,w⟩=>?_
    refine⟨fun p=>∃n ds,h.length<=n/\α'[n]?=some p/\aG h' n=some ds,fun p ⟨n,ds,_,hp,hn⟩=>?_,fun o=>?_⟩
    ·obtain⟨vs,hv,_⟩:=r.lst hn hp
     exact⟨_,hv,trivial⟩
    ·unfold di at w
     obtain⟨hl,w⟩:=WQ.dO w
     cases ez:ji h.length h' 8 d with
     | none=>rw[ez] at w;exact w.elim
     | some e'=>
      rw[ez] at w
      generalize hS:(fun p=>∃n ds,h.length<=n/\α'[n]?=some p/\aG h' n=some ds)=S
      have inS:∀p,S p↔∃n ds,h.length<=n/\α'[n]?=some p/\aG h' n=some ds:=fun p=>by rw[<- hS]
      have k0:=hh.len
      have notS:∀p u,H' p=some u->(∀vs,u≠.lst vs)->¬ S p:=fun p u e1 e2 z=>by
       obtain⟨n,ds,_,hp,hn⟩:=(inS p).mp z
       obtain⟨vs,hv,_⟩:=r.lst hn hp
       rw[e1] at hv;cases hv;exact e2 vs rfl
      have off:∀p,¬ S p->j7 S o H' p=H' p:=fun p z=>by unfold j7;rw[if_neg z]
      have offT:∀(p:Addr) (ps:Array Ng),H' p=some (.tbl ps)->j7 S o H' p=some (.tbl ps):=fun p ps z=>by rw[off p (notS p _ z fun vs z=>nomatch z)];exact z
      have L:u4 K α α' H' (j7 S o H') h.length:=⟨fun n hn=>yH e.pre (by lia),fun p xs z=>by rw[off p (notS p _ z fun vs z=>nomatch z)];exact z,fun p o u z=>by rw[off p (notS p _ z fun vs z=>nomatch z)];exact z⟩
      have kp:∀n p u,n<h.length->α'[n]?=some p->H' p=some u->j7 S o H' p=some u:=fun n p u hn hp e1=>by
       rw[off p fun z=>?_];exact e1
       obtain⟨m,ds,hm,hp',_⟩:=(inS p).mp z
       have:=r.inj n m p hp hp'
       lia
      have rd2:=m8 L r (fun _ _ z=>z) (fun n p ds vs hn hl hp hv=>⟨o p,by unfold j7;rw[if_pos ((inS p).mpr ⟨n,ds,hn,hp,hl⟩),hv];rfl⟩) 8 d e' v ez rd
      refine(show aO K g α H Q e' (h'.take h.length) from w) v _ α ⟨⟨Qg _,fun p xs z=>L.tup p xs (e.tup p xs z),fun p o u z=>L.frz p o u (e.frz p o u z),fun p ps z=>(e.tbl p ps z).imp fun _ q=>offT p _ q⟩,fun p u z n nt=>?_,fun _ z n=>absurd z n⟩ ⟨?_,fun n m p h1 h2=>hh.inj n m p h1 h2,fun n p ob h1 h2=>?_,r.tab.mono offT L.frz⟩ rd2
      ·rw[off p fun z'=>?_];exact e.kept p u z n nt
       obtain⟨m,ds,_,hp',_⟩:=(inS p).mp z'
       have:=e.new p (NP hp') n
       rw[z] at this;cases this
      ·rw[NH,<- r.len]
       have:=e.pre.length_le
       lia
      ·have hn:=(uk h2).1
       rw[yH e.pre (by lia)] at h1
       exact AQ k0 e r hl L kp n p ob hn h1 h2
   | next=>exact q
   | brk=>exact q
   | cont=>exact q
end
section
variable {X:Cx}{g:GG}{ε:EE}{K:ab}
noncomputable def lq (m:MF):MF:=fun ds h=>if bT 0 ds=true then match m ds [] with
  | .ok d _=>if iB 0 d=true then .ok d h else .bad
  | _=>.bad
 else m ds h
theorem yG (e:Ext K [] H α' H'):Ext K α H α H':=
 ⟨⟨Qg _,e.tup,e.frz,e.tbl⟩,fun p o h _ t=>e.kept p o h (by simp) t,fun p a b=>absurd a b⟩
theorem Ct (e:Ext K [] H α' H') (r:aV K g α H h) (t:iJ K H'):aV K g α H' h:=
 ⟨r.len,r.inj,fun n p o a b=>(r.here n p o a b).ex0 (yG e).toEx0 fun u hu=>e.kept p u hu (by simp) (by obtain⟨u',e1,_,_,e4⟩:=(r.here n p o a b).isS;simp_all),t⟩
theorem AY (h:spM K g np (lq m) vs H Q E):spM K g np m vs H Q E:=by
 obtain⟨hl,α,ds,h,rs,hh,w⟩:=h
 unfold lq at w
 by_cases lo:bT 0 ds=true
 ·rw[if_pos lo] at w
  cases e:m ds [] with
  | bad=>rw[e] at w;exact w.elim
  | err x h1=>rw[e] at w;exact w.elim
  | ok d h1=>
   rw[e] at w
   obtain⟨ld,w⟩:=WQ.dO w
   refine⟨hl,[],ds,[],eO ⟨fun n hn=>absurd hn (Qw _),fun _ _ z=>z,fun _ _ _ z=>z⟩ lo rs,⟨rfl,fun n m p a=>by simp at a,fun n p o a=>by simp at a,hh.tab⟩,?_⟩
   rw[e]
   exact fun v H' α' ex hr' rd=>(show aO K g α H Q d h from w) v H' α (yG ex) (Ct ex hh hr'.tab) (m7 ⟨fun n hn=>absurd hn (Qw _),fun _ _ z=>z,fun _ _ _ z=>z⟩ ld rd)
 ·rw[if_neg lo] at w
  exact⟨hl,α,ds,h,rs,hh,w⟩
theorem wH (F:dJ P w K mg base CX0 k f fd ps (spM K g np m)):dJ P w K mg base CX0 k f fd ps (spM K g np (lq m)):=
 ⟨fun vs H Q E h=>F.len vs H Q E (AY h),fun A outer s H args us vs Q E hr e0 hb hv hsp=>F.run A outer s H args us vs Q E hr e0 hb hv (AY hsp)⟩
end
end L2.FE
namespace L2
open PySem PySem.Spec PyProof.Rows
section
variable {prog:NC}{w:N4}{A:N1}{E:Ng->Nk->Prop}{s:Nk}
theorem A2 (hl:s.heap.IsTuple l vs.toArray) (hz:vs.length<=sizeLine)
  (h:Q vs { s with heap:=(s.heap.push (seqObj "list" #[] 0)).update s.heap.objs.size (OU (·++vs.toArray)) }):wpAny (model prog w) A (collect (.ref l)) Q E s:=by
 obtain⟨o,ho,hc,n,hd⟩:=hl
 unfold collect;refine gV (R8 (Px entry_proto_collect' ?_))
 refine gV (Qx (k5 ⟨Ru _ (by simp),Px entry_list_iadd' ?_⟩))
 show wpAny _ _ (Oo.List.listExtendWith (.ref s.heap.objs.size) (.ref l) (.ref s.heap.objs.size)) _ _ { s with heap:=s.heap.push (seqObj "list" #[] 0) }
 have g1:(s.heap.push (seqObj "list" #[] 0)).get? l=some o:=k3 _ ho
 refine gV (Rt ⟨o,g1,hc⟩ ?_)
 rw[if_pos (by simp)]
 refine gV (RV g1 hd (gV (RV (Nm _ rfl) rfl ?_)))
 refine gV (Ra (Nm _ rfl) rfl (k5 ?_) (Ox _) (by grind))
 refine gV (wpAny_load (RW (Nm _ rfl) _) ?_)
 have e:((#[]:Array Ng)++vs.toArray).toList=vs:=by simp
 show wpAny _ _ (pure ((#[]:Array Ng)++vs.toArray).toList) Q E _;rw[e];exact k5 h
theorem l8 (hl:s.heap.IsTuple l vs.toArray) (hI:IntsAre vs ns) (h64:vs.length<64)
  (h:∀out ms , IntsAre out.toList ms->ms.Perm ns->ms.Pairwise (·<=·)->Q (.ref (s.heap.objs.size+1)) { s with heap:=sortedAll s.heap vs out }):wpAny (model prog w) A (call (.builtin "sorted") [.ref l]) Q E s:=by
 refine Qc kind_sorted plain_sorted entry_sorted (Sw _) ?_
 refine gV (m:=checkCount "sorted" 1 1 _) (k5 (gV (A2 hl (by have:64<=sizeLine:=by decide
                                                             lia) (gV (Qx ?_)))))
 have n1:((s.heap.push (seqObj "list" #[] 0)).update s.heap.objs.size (OU (·++vs.toArray))).objs.size=s.heap.objs.size+1:=(Heap.size_update ..).trans (size_push' ..)
 have o1:(((s.heap.push (seqObj "list" #[] 0)).update s.heap.objs.size (OU (·++vs.toArray))).push (seqObj "list" vs.toArray 0)).get? (s.heap.objs.size+1)=some (seqObj "list" vs.toArray 0):=n1 ▸ Nm _ rfl
 show wpAny _ _ _ _ _ { s with heap:=((s.heap.push (seqObj "list" #[] 0)).update s.heap.objs.size (OU (·++vs.toArray))).push (seqObj "list" vs.toArray 0) };rw[n1]
 exact gV (Oe (OE R9 ⟨_,o1,rfl⟩ RX (list_sort_tree o1 hI h64 fun out ms a1 a2 a3=>⟨_,rfl,k5 ⟨_,rfl,h out ms a1 a2 a3⟩⟩) (R_ _)))
end
noncomputable def insI (x:Int):List Int->List Int
 | []=>[x]
 | y::r=>if x<=y then x::y::r else y::insI x r
noncomputable def sortI:List Int->List Int
 | []=>[]
 | x::r=>insI x (sortI r)
theorem insI_perm (x:Int):∀l,(insI x l).Perm (x::l)
 | []=>.refl _
 | y::r=>by
  unfold insI
  split
  ·rfl
  ·exact((insI_perm x r).cons y).trans (.swap _ _ _)
theorem sortI_perm:∀l,(sortI l).Perm l
 | []=>.refl _
 | x::r=>(insI_perm x (sortI r)).trans ((sortI_perm r).cons x)
theorem l6 (x:Int):∀l:List Int,l.Pairwise (·<=·)->(insI x l).Pairwise (·<=·)
 | [],_=>by simp[insI]
 | y::r,h=>by
  unfold insI
  rw[NZ] at h
  split
  ·rename_i hx
   refine NZ.mpr ⟨fun z hz=>?_,NZ.mpr h⟩
   rcases Nx.mp hz with rfl | hz
   ·exact hx
   ·exact Int.le_trans hx (h.1 z hz)
  ·rename_i hx
   refine NZ.mpr ⟨fun z hz=>?_,l6 x r h.2⟩
   rcases Nx.mp ((insI_perm x r).mem_iff.mp hz) with rfl | hz
   ·lia
   ·exact h.1 z hz
theorem iq:∀l,(sortI l).Pairwise (·<=·)
 | []=>.nil
 | x::r=>l6 x _ (iq r)
theorem lO:∀{xs ys:List Int},xs.Perm ys->xs.Pairwise (·<=·)->ys.Pairwise (·<=·)->xs=ys
 | [],ys,p,_,_=>by simp_all
 | x::xs,[],p,_,_=>absurd (QU.eq_nil p) (by simp)
 | x::xs,y::ys,p,hx,hy=>by
  rw[NZ] at hx hy
  have e:x=y:=by
   have a:=p.mem_iff.mp Nt
   have b:=p.mem_iff.mpr Nt
   grind
  subst e
  rw[lO (List.perm_cons x |>.mp p) hx.2 hy.2]
theorem oG:∀{ns:List Int}{us:List Ng},Vals (ns.map V.int) us->IntsAre us ns
 | [],_,.nil=>.nil
 | n::ns,_,.cons r t=>by
  obtain⟨t',rfl⟩:=r
  exact .cons _ _ (oG t)
theorem qD:∀{us:List Ng}{ns:List Int},IntsAre us ns->Vals (ns.map V.int) us
 | _,_,.nil=>.nil
 | _,_,.cons _ _ t=>.cons ⟨_,rfl⟩ (qD t)
section
variable {X:Cx}
theorem zy:bB X (.builtin "sorted") (fun vs H Q=>∃p ns,vs=[.ref p]/\(SqL X.K H p (ns.map V.int)\/SqT X.K H p (ns.map V.int))/\ns.length<64/\∀l,H l=none->Q (.ref l) (upd H l (.lst ((sortI ns).map V.int)))):=by
 intro pins s σ H xs us Q I r h
 obtain⟨p,ns,rfl,hq,h64,q⟩:=h
 obtain⟨u,rfl,rx⟩:=vals1 r
 cases rx
 have fin:∀{its:List Ng} (out:Array Ng) (ms:List Int),IntsAre out.toList ms->ms.Perm ns->ms.Pairwise (·<=·)->EP X pins σ Q (.ref (s.heap.objs.size+1)) { s with heap:=sortedAll s.heap its out }:=fun{its} out ms a1 a2 a3=>by
  have e:=lO (a2.trans (sortI_perm ns).symm) a3 (iq ns)
  subst e
  obtain⟨k,hk⟩:=Sx s.heap its out
  have hn:=I.hok.fresh (Qj _)
  have len:((sortI ns).map V.int).length<=sizeLine:=by
   have:64<=sizeLine:=by decide
   rw[Nw,(sortI_perm ns).length_eq];lia
  refine⟨.ref (s.heap.objs.size+1),upd H (s.heap.objs.size+1) (.lst ((sortI ns).map V.int)),I.laid (fun _ _ z=>Sn z) (Qj _) ⟨len,out.toList,k,qD a1,?_⟩,rfl,q _ hn⟩
  rw[hk]
 rcases hq with hq | hq
 ·obtain⟨its,rv,pl,hz⟩:=I.list hq
  have hl:=rv.length
  rw[Nw] at hl
  exact sorted_ints pl.isList (oG rv) (by lia) fin
 ·obtain⟨its,rv,pl,hz⟩:=I.tuple hq
  have hl:=rv.length
  rw[Nw] at hl
  exact l8 (show s.heap.IsTuple p its.toArray from pl) (oG rv) (by lia) fin
end
end L2
namespace L2.FE
open PySem PySem.Spec PyProof.Rows
section
variable {X:Cx}{g:GG}{ε:EE}{K:ab}
noncomputable def lP (nl:NL):List D->Hh->R D:=fun ds h=>match ds with
 | [d]=>match f9 d h with
  | some xs=>match intsOf xs with
   | some ns=>if ns.length<64 then nl ((sortI ns).map D.int) h else .bad
   | none=>.bad
  | none=>.bad
 | _=>.bad
theorem uh:∀(ns:List Int),au K g α H (ns.map D.int) (ns.map V.int)
 | []=>.nil
 | n::ns=>.cons (.int n) (uh ns)
theorem D_ [jj nl]:kl K g ε (lP nl) (fun vs H Q=>∃p ns,vs=[.ref p]/\(SqL K H p (ns.map V.int)\/SqT K H p (ns.map V.int))/\ns.length<64/\∀l,H l=none->g7 Q (.ref l) (upd H l (.lst ((sortI ns).map V.int)))):=by
 intro α H h a x Q r ra w
 obtain⟨d,v,rfl,rfl,rd⟩:=jG (fun _ _ _ _=>rfl) (fun _=>rfl) ra w
 unfold lP at w
 simp only at w
 cases e:f9 d h with
 | none=>rw[e] at w;exact w.elim
 | some ds=>
  rw[e] at w
  simp only at w
  cases e2:intsOf ds with
  | none=>rw[e2] at w;exact w.elim
  | some ns=>
   rw[e2] at w
   obtain⟨h64,w⟩:=WQ.dO w
   obtain⟨p,vs,rfl,hq,rs⟩:=mS r rd e
   have e3:=dI e2
   subst e3
   have e4:=rs.vM
   subst e4
   exact⟨p,ns,rfl,hq,h64,fun l hl=>NL.post w r (uh _) hl⟩
end
theorem jK (ok:HOk P w H h) (e:H p=some (AtO p o)):h.get? p=some o:=(show bK P w H h p (AtO p o) from ok p _ e).1
theorem lr {rest:List Expr}:starEach (.Name a b::rest) env=(false,eval (.Name a b) env)::starEach rest env:=by rfl
theorem An:backTo pos ((false,t)::r)=(false,t)::backTo pos r:=rfl
theorem lW {env:Env}{pos:Pos}{x:Str}{p2:Pos}:∀qs:List (Str × Pos),(backTo pos (starEach (qs.map (fun y=>Td y.1 y.2)++[.Name x p2]) env)).any (·.1)=false
 | []=>by rfl
 | q::qs=>by
  rw[ND,RM,lr,An,O6,lW qs];rfl
section
variable {P:NC}{w:N4}{K:ab}{mg:Str->Option Ng}{base:Heap}{H:Hp}{clos:List (Str × Addr)}{scope:Rh}{env:Env}{A:N1}{E:Ng->Nk->Prop}{s:Nk}{m:Str->Option Ng}
theorem qx {x:Str}{p2 pos:Pos}{u:Ng} (hs:env.scope.kind=.function) (hcl:env.cells=clos) (hok:HOk P w H s.heap) (hx:env.kindOf x=some .local) (hxd:(x == ("__debug__" : Str))=false) (hn:s.heap.Ns env.locals m) (hm:m x=some u) :
  ∀(qs:List (Str × Pos)) (vs:List V) (Q:List Ng->Nk->Prop),kB H clos (qs.map (·.1)) vs->(∀y∈qs.map (·.1),env.kindOf y=some .free/\(y == ("__debug__" : Str))=false/\(y == ("__classdict__" : Str))=false) →
   (∀us,Vals vs us->Q (us++[u]) s)->wpAny (model P w) A (spliced (backTo pos (starEach (qs.map (fun y=>Td y.1 y.2)++[.Name x p2]) env))) Q E s
 | [],_,Q,.nil,_,h=>by
  exact PM (R3 (Q7 hs hx hn hm (RF (h [] .nil))) hxd)
 | q::qs,_,Q,.cons ⟨c,o,z,hl,hc,hd,r⟩ t,hf,h=>by
  obtain⟨f1,f2,f3⟩:=hf q.1 (by simp)
  refine PM (R3 (wpAny_loadName_free hs f1 (by simp_all) ⟨o,jK hok hc,hd⟩ ?_ f3) f2)
  exact qx hs hcl hok hx hxd hn hm qs _ _ t (fun y hy=>hf y (by simp_all)) fun us r2=>h (z::us) (.cons r r2)
end
theorem Dx {K:ab}
  (F:dJ P w K mg base CX0 k f fd ps sp) (hkp:Oy K (.ref f)=true) (hb:Binds K fd ps []) (hm:mg fn=some (.ref f)) (T:vz fn x qual ys params body scope)
          (hr:eJ (k+1) A) (e0:Ai P w K mg base A outer s H)
  (hp:H p=some (AtO p (OZ "<lambda>" qual params body scope clos pm c' ctv))) (hc:H c'=some (AtO c' oc)) (hd:oc.data=.fields vc) (hv:vc[1]?=some (.str qual t)) (cs:kB H clos ys cv) (rv:RelV v u)
  (h:sp (cv++[v]) H Q E1):codeAny (model P w) A (.call (.ref p) ⟨[u],[]⟩) (CR CX0 outer P w H s Q E) s:=by
 refine PySem.W.kla_callFunE hr.depth (jK e0.hok hp) rfl T.co T.gen rfl ⟨c',oc,vc,t,rfl,jK e0.hok hc,hd,hv⟩ ?_
 rw[T.bind]
 refine k5 (Q8 T.Gq (by intro y hy;simp at hy;subst hy;exact T.loc) (fun h₁ hns hsb=>?_) T.kind)
 have keep1:=fun b o e=>hsb.extBut b o (NA (Nh e)) (k3 _ e)
 refine⟨(e0.mod.nolimit.keeps fun b o e=>(e0.bs b o e).1).keeps keep1,?_⟩
 refine PySem.W.kla_codeExpr ?_
 obtain⟨p0,p2,p3,qs,rfl,rfl⟩:=T.tx
 have KX:=(e0.mod.kin.keeps fun b o e=>(e0.bs b o e).1).keeps keep1
 have hok1:=e0.hok.kept keep1
 refine Qs (P7 T.kind T.glob (Calls.loadGlobal_global ((e0.mod.glob.keeps fun b o e=>(e0.bs b o e).1).keeps keep1) hm ?_) T.nd.1)
 have hL:frs (OL qual scope s.heap.objs.size p (.ref c') clos::outer)=s.heap.objs.size::frs outer:=rfl
 have sz:s.heap.objs.size<=h₁.objs.size:=by
  by_cases z:s.heap.objs.size=0
  ·lia
  ·exact RQ hns.lt
 have e1:Ai P w K mg base (A.deeper (OL qual scope s.heap.objs.size p (.ref c') clos)) (OL qual scope s.heap.objs.size p (.ref c') clos::outer) { s with heap:=h₁,toks:=s.toks+1 } H:=
  ⟨N1.frames_deeper e0.frames,e0.mod,fun b o e=>⟨keep1 b o (e0.bs b o e).1,(e0.bs b o e).2⟩,NT e0.bsz sz,
   Heap.FunFrames.cons (by show scope.kind≠_;rw[T.kind];decide) rfl hns (Heap.get?_none_of_le e0.bsz) (Heap.FunFrames.of_keeps (fun b o e _=>⟨o,keep1 b o e,rfl⟩) e0.mK),
   fun b hb'=>by
    rcases Nx.mp hb' with z | z
    ·rw[z];exact e0.hok.fresh (Ni _)
    ·exact e0.frf b z,hok1,e0.bare⟩
 have fin:∀us:List Ng,Vals cv us->wpAny (model P w) (A.deeper (OL qual scope s.heap.objs.size p (.ref c') clos)) (call (.ref f) ([]++(us++[u]))) (fun z s'=>CR CX0 outer P w H s Q E (.ok (.ret z)) s')
   (fun e' s'=>wpAny (model P w) (A.deeper (OL qual scope s.heap.objs.size p (.ref c') clos)) (leaving (OL qual scope s.heap.objs.size p (.ref c') clos) e') (fun _ s''=>CR CX0 outer P w H s Q E (.error e') s'') (fun e'' s''=>CR CX0 outer P w H s Q E (.error e'') s'') s') { s with heap:=h₁,toks:=s.toks+1 }:=fun us r2=>by
  have rr:=r2.append (.cons rv .nil)
  have hl:(us++[u]).length=ps.length:=by rw[<- rr.length];exact F.len _ _ _ _ h
  have hb2:=hb { s with heap:=h₁,toks:=s.toks+1 } (us++[u]) KX (by simp_all)
  rw[PU] at hb2
  refine R5 (O_ (F.run _ _ _ H ⟨us++[u],[]⟩ (us++[u]) (cv++[v]) Q E1 (hr.deeper _) e1 hb2 rr h) fun r s' hq=>?_)
  cases r with
  | error e=>exact Rc hq
  | ok fl=>
   cases fl with
   | ret z=>
    obtain⟨y,H',os,bare,un,hok,r,q⟩:=(show CE _ P w H _ Q z s' from hq)
    have old:∀{b:Addr} {o:Obj},s.heap.get? b=some o->b∉frs outer->b∉frs (OL qual scope s.heap.objs.size p (.ref c') clos::outer):=fun{b o} e n z=>by
     rcases Nx.mp z with z | z
     ·exact absurd (Nh e) (by simp_all)
     ·exact n z
    exact⟨y,H',os,bare,⟨fun b o e n hb' hx=>un.keep b o (keep1 b o e) n (old e hb') hx,fun b o e n hb' hx=>un.slot b o (keep1 b o e) n (by simp_all) hx,fun b o e n hx=>un.free b o (keep1 b o e) n hx,fun b o e hx=>un.there b o (keep1 b o e) hx,un.j3,un.kL,un.my⟩,hok,r,q⟩
   | next=>assumption
   | brk=>assumption
   | cont=>assumption
 have main:=qx (env:=OL qual scope s.heap.objs.size p (.ref c') clos) (A:=A.deeper (OL qual scope s.heap.objs.size p (.ref c') clos)) (s:={ s with heap:=h₁,toks:=s.toks+1 }) (x:=x) (p2:=p2) (pos:=p3) (u:=u)
  (E:=fun e' s'=>wpAny (model P w) (A.deeper (OL qual scope s.heap.objs.size p (.ref c') clos)) (leaving (OL qual scope s.heap.objs.size p (.ref c') clos) e') (fun _ s''=>CR CX0 outer P w H s Q E (.error e') s'') (fun e'' s''=>CR CX0 outer P w H s Q E (.error e'') s'') s')
  T.kind rfl hok1 T.loc T.nd.2 hns (by simp) qs cv (fun us s2=>K.In s2.heap/\wpAny (model P w) (A.deeper (OL qual scope s.heap.objs.size p (.ref c') clos)) (call (.ref f) ([]++us)) (fun z s'=>CR CX0 outer P w H s Q E (.ok (.ret z)) s')
   (fun e' s'=>wpAny (model P w) (A.deeper (OL qual scope s.heap.objs.size p (.ref c') clos)) (leaving (OL qual scope s.heap.objs.size p (.ref c') clos) e') (fun _ s''=>CR CX0 outer P w H s Q E (.error e') s'') (fun e'' s''=>CR CX0 outer P w H s Q E (.error e'') s'') s') s2) cs T.free fun us r2=>⟨KX,fin us r2⟩
 cases qs with
 | nil=>exact Rr (h₀:=h₁) KX hkp main lr rfl
 | cons q qs=>exact Rr (h₀:=h₁) KX hkp main lr (lW qs)
noncomputable def xr (tab:Str->Option (Nat × MF)) (f:ME) (a:MA):ME:=fun env h=>(f env h).bind fun d h1=>match d with
 | .clo x ds=>match tab x with
  | some (np,m)=>if ds.length+1=np then (a env h1).bind fun es h2=>m (ds++es) h2 else .bad
  | none=>.bad
 | _=>.bad
theorem vW {X:Cx}{g:GG}{k:Nat}{tab:Str->Option (Nat × MF)}{fe e:Expr}{pos:Pos}{mf:ME}{mr:MA}
  (T:∀x np m,tab x=some (np,m)->∃f fd ps,X.mg x=some (.ref f)/\dJ X.prog X.w X.K X.mg X.base CX0 k f fd ps (spM X.K g np m)/\Oy X.K (.ref f)=true/\Binds X.K fd ps [])
  (hr:eJ (k+1) X.A) (hf:PE X fe (tM X.K g E00 mf)) (ha:PA X [e] (tMA X.K g E00 mr)) (hlen:∀env h ds h',mr env h=.ok ds h'->ds.length=1)
  (hc:eval (.Call fe [e] [] pos) X.env=(do callWith pos (← eval fe X.env) [] (backTo pos (starEach [e] X.env)) (backToKw pos (keywordEach [] X.env))):=by rfl)
  (he:starEach [e] X.env=(false,eval e X.env)::starEach [] X.env:=by rfl) :
  PE X (.Call fe [e] [] pos) (tM X.K g E00 (xr tab mf mr)):=by
 intro pins s σ H Q I ⟨α,env,h,s0,w⟩
 refine Call_ (thn (hf pins s σ H (fun v H1=>∃α1 h1 p o clos ys cv c' oc qual t vc x ds np m,v=.ref p/\H1 p=some (AtO p o)/\EL x clos ys o c' qual/\H1 c'=some (AtO c' oc)/\oc.data=.fields vc/\vc[1]?=some (.str qual t)/\kB H1 clos ys cv/\au X.K g α1 H1 ds cv ∧
   tab x=some (np,m)/\ds.length+1=np/\cZ X.K g α1 H1 env σ h1/\WQ X.K g E00 α1 H1 ((mr env h1).bind fun es h2=>m (ds++es) h2) (aO X.K g α1 H1 Q)) I ?_) fun v s1 ⟨x,H1,I1,r1,q1⟩=>?_) hc
 ·refine tM.use s0 w.bind fun d1 h1 v1 H1 α1 e1 s1 r1 w1=>?_
  cases r1 with
  | @clo x ds p o clos ys vs c' oc qual t vc hp hl hc' hd hv cs rs=>
   simp only at w1
   cases et:tab x with
   | none=>rw[et] at w1;exact w1.elim
   | some q=>
    obtain⟨np,m⟩:=q
    rw[et] at w1
    obtain⟨hn,w1⟩:=WQ.dO w1
    exact⟨α1,h1,p,o,clos,ys,vs,c',oc,qual,t,vc,x,ds,np,m,rfl,hp,hl,hc',hd,hv,cs,rs,et,hn,s1,WQ.post e1 w1⟩
  | _=>exact w1.elim
 ·obtain⟨α1,h1,p,o,clos,ys,cv,c',oc,qual,t,vc,x,ds,np,m,rfl,hp,⟨params,body,scope,pm,ctv,xa,rfl,tx⟩,hc',hd,hv,cs,rs,et,hn,s2,w2⟩:=q1
  cases r1
  obtain⟨f,fd,ps,hm,F,hk,hb⟩:=T x np m et
  have fn:∀{h:Heap},h.get? p=some (OZ "<lambda>" qual params body scope clos pm c' ctv)->PySem.W.FnAt p h:=fun e=>⟨_,_,_,_,e⟩
  refine PySem.W.callWith_F (fn (jK I1.hok hp)) (thn (ha pos pins s1 σ H1 (fun vs H2=>∃v,vs=[v]/\H2 p=some (AtO p (OZ "<lambda>" qual params body scope clos pm c' ctv))/\H2 c'=some (AtO c' oc)/\kB H2 clos ys cv/\spM X.K g np m (cv++[v]) H2 Q E0) I1 ?_) fun us s3 ⟨vs,H2,I2,r,v,ev,hp2,hc2,cs2,q⟩=>⟨fn (jK I2.hok hp2),?_⟩) he rfl
  ·refine⟨α1,env,h1,s2,w2.bind.mono fun es h3 eq w3 v3 H3 α3 e3 hr3 r3=>?_⟩
   have l1:=hlen env h1 es h3 eq
   obtain⟨d,rfl⟩:∃d,es=[d]:=List.length_eq_one_iff.mp l1
   cases r3 with
   | @cons _ v _ _ rd rn=>
    cases rn
    refine⟨v,rfl,e3.frz _ _ _ hp,e3.frz _ _ _ hc',L2.Paired.pO cs fun _ _ ⟨c,o,u,l,a,b⟩=>⟨c,o,u,l,e3.frz _ _ _ a,b⟩,?_,α3,ds++[d],h3,(rs.ext e3).append (.cons rd .nil),hr3,w3.post e3⟩
    rw[NY,<- rs.length];exact hn
  ·subst ev
   cases r with
   | @cons _ u _ _ ru rn=>
    cases rn
    refine R5 (O_ (Dx F hk hb hm tx (E:=E0) hr I2.J6 hp2 hc2 hd hv cs2 ru q) fun r s' hq=>?_)
    cases r with
    | error e=>exact Rc hq
    | ok fl=>
     cases fl with
     | ret u=>exact I2.after hq
     | next=>assumption
     | brk=>assumption
     | cont=>assumption
open Classical in
noncomputable def mkH (S:Addr->Prop) (h2:Heap) (PT:Addr) (T:Array Ng) (H1:Hp):Hp:=fun b=>if S b then (h2.get? b).map (AtO b) else if b=PT then some (.tbl T) else H1 b
structure MkS (P) (w) (S:Addr->Prop) (h1 h2:Heap) (PT) (ps more) (H1):Prop where
 hok:HOk P w H1 h1
 hPT:H1 PT=some (.tbl ps)
 k:∀b o,b≠PT->h1.get? b=some o->h2.get? b=some o
 hT:h2.get? PT=some (Qd (ps++more))
 hS:∀b,S b->b≠PT/\(∃o,h2.get? b=some o)/\(H1 b=none\/∃o,H1 b=some (AtO b o))
section
variable {P:NC}{w:N4}{S:Addr->Prop}{h0 h1 h2:Heap}{PT:Addr}{ps more:Array Ng}{H H1:Hp}{K:ab}{g:GG}{α:List Addr}{h:Hh}{fs:List Addr}
theorem MkS.at_ (M:MkS P w S h1 h2 PT ps more H1) (hb:S b) (e:h2.get? b=some o):mkH S h2 PT (ps++more) H1 b=some (AtO b o):=by
 unfold mkH;simp_all
theorem MkS.pt (M:MkS P w S h1 h2 PT ps more H1):mkH S h2 PT (ps++more) H1 PT=some (.tbl (ps++more)):=by
 unfold mkH;rw[if_neg fun z=>(M.hS PT z).1 rfl,if_pos rfl]
theorem MkS.off (M:MkS P w S h1 h2 PT ps more H1) (e:H1 b=some o) (n:b≠PT):mkH S h2 PT (ps++more) H1 b=some o:=by
 by_cases hb:S b
 ·obtain⟨_,⟨o2,e2⟩,z | ⟨o1,z⟩⟩:=M.hS b hb
  ·simp_all
  ·rw[e] at z;cases z
   have e1:=M.k b o1 n (jK M.hok e)
   exact M.at_ hb e1
 ·unfold mkH;simp_all
theorem MkS.non (M:MkS P w S h1 h2 PT ps more H1) (e:H1 b=none) (n:¬ S b):mkH S h2 PT (ps++more) H1 b=none:=by
 unfold mkH;rw[if_neg n,if_neg (bF M.hPT e).symm];exact e
theorem MkS.Lb (M:MkS P w S h1 h2 PT ps more H1):HOk P w (mkH S h2 PT (ps++more) H1) h2:=by
 intro b u e
 by_cases hb:S b
 ·obtain⟨_,⟨o2,e2⟩,_⟩:=M.hS b hb
  rw[M.at_ hb e2] at e
  cases e
  exact⟨e2,e2,⟨o2,e2⟩,fun a c x y=>y _ x⟩
 ·by_cases hp:b=PT
  ·subst hp
   rw[M.pt] at e
   cases e
   exact M.hT
  ·have e1:H1 b=some u:=by unfold mkH at e;simp_all
   refine(M.hok b u e1).kW (fun c x hc hx=>M.k c x ?_ hx) (fun c z=>M.off z fun q=>?_) fun c xs z=>M.off z fun q=>?_
   ·rcases hc with rfl | hc
    ·exact hp
    ·rintro rfl;rw[M.hPT] at hc;cases hc
   ·subst q;rw[M.hPT] at z;cases z
   ·subst q;rw[M.hPT] at z;cases z
theorem MkS.un (M:MkS P w S h1 h2 PT ps more H1) (u:Un fs [] H H1 h0 h1) (hn:∀b,S b->h0.objs.size<=b\/H1 b≠none):Un fs [] H (mkH S h2 PT (ps++more) H1) h0 h2:=by
 have nt:=fun b o e n=>(bF M.hPT (u.free b o e n (by simp))).symm
 refine⟨fun b o e n hf hx=>M.k b o (nt b o e n) (u.keep b o e n hf hx),fun b o e n hf hx=>?_,fun b o e n hx=>?_,fun b o e hx=>?_,fun b xs e=>M.off (u.j3 b xs e) fun z=>?_,fun b o x e=>M.off (u.kL b o x e) fun z=>?_,fun b qs e=>?_⟩
 ·obtain⟨sl,e1⟩:=u.slot b o e n hf hx
  exact⟨sl,M.k b _ (nt b o e n) e1⟩
 ·have z:=u.free b o e n hx
  refine M.non z fun hb=>?_
  rcases hn b hb with q | q
  ·exact absurd (Nh e) (Rf.mpr q)
  grind
 ·obtain⟨o1,e1⟩:=u.there b o e hx
  by_cases z:b=PT
  ·exact⟨_,z ▸ M.hT⟩
  ·exact⟨o1,M.k b o1 z e1⟩
 ·have:=u.j3 b xs e;rw[z,M.hPT] at this;grind
 ·have:=u.kL b o x e;rw[z,M.hPT] at this;grind
 ·obtain⟨m1,e1⟩:=u.my b qs e
  by_cases z:b=PT
  ·subst z
   rw[M.hPT] at e1
   cases e1
   exact⟨m1++more,by rw[M.pt,Rp]⟩
  ·exact⟨m1,M.off e1 z⟩
theorem MkS.ext (M:MkS P w S h1 h2 PT ps more H1):Ext K α H1 α (mkH S h2 PT (ps++more) H1):=
 ⟨⟨Qg _,fun p xs e=>M.off e (fun z=>by rw[z,M.hPT] at e;cases e),fun p o x e=>M.off e (fun z=>by rw[z,M.hPT] at e;cases e),fun p qs e=>by
  by_cases z:p=PT
  ·subst z
   rw[M.hPT] at e;cases e
   exact⟨more,M.pt⟩
  ·exact⟨#[],by rw[M.off e z];simp⟩⟩,fun p o e _ t=>M.off e (fun z=>by rw[z,M.hPT] at e;grind),fun _ z n=>absurd z n⟩
theorem MkS.Lz (M:MkS P w S h1 h2 PT ps more H1) (r:aV K g α H1 h){ns:Pos × Str} (uq:∀f q,ki K f=some q->q.1=PT->q.2=ns) (t:uP (mkH S h2 PT (ps++more) H1) (PT,ns)):aV K g α (mkH S h2 PT (ps++more) H1) h:=by
 refine⟨r.len,r.inj,fun n p o a b=>(r.here n p o a b).ex0 M.ext.toEx0 fun x e=>M.off e fun z=>?_,fun f q e=>?_⟩
 ·obtain⟨u,e1,_,_,nt⟩:=r.mem (NP a)
  rw[z,M.hPT] at e1;cases e1;exact nt _ rfl
 ·by_cases z:q.1=PT
  ·have:=uq f q e z
   cases z;cases this
   exact t
  ·rcases r.tab f q e with x | ⟨c',oc,vc,tk,x,hc,hd⟩
   ·exact .inl (M.off x z)
   ·exact .inr ⟨c',oc,vc,tk,M.off x z,M.off hc (fun y=>by rw[y,M.hPT] at hc;cases hc),hd⟩
end
theorem zx {h h':Heap}{mg:Str->Option Ng}{PT:Addr} (k:∀b o,h.get? b=some o->h'.get? b=some o) (x:h.BuiltinsAt mg PT):h'.BuiltinsAt mg PT:=
 let ⟨bm,o,a,b,c,d,e,r⟩:=x;⟨bm,o,a,b,c,d,k _ _ e,r⟩
noncomputable def Made (X:Cx) (g:GG) (α:List Addr) (h:Hh) (H1:Hp) (s1:Nk) (d:D) (u:Ng) (s2:Nk):Prop:=∃p H2,u=.ref p/\s2.os=s1.os/\s2.gens=s1.gens/\HOk X.prog X.w H2 s2.heap/\Un X.fs [] X.aK H2 X.aD.heap s2.heap/\Ext X.K α H1 α H2/\aV X.K g α H2 h/\aL X.K g α H2 d (.ref p) ∧
 (∀b o,H1 b=none->s1.heap.get? b=some o->s2.heap.get? b=some o)/\(∀b o,s1.heap.get? b=some o->H1 b=none->(∀x c,X.env.cells.lookup x=some c->c≠b)->H2 b=none)
theorem BE {X:Cx}{g:GG}{pins:List (Addr × Obj)}{σ:St}{H1:Hp}{s1:Nk}{α:List Addr}{h:Hh}{params:Sj}{body:Expr}{scope:Rh}{pos:Pos}{clos:List (Str × Addr)}{c PT f:Addr}{lf x ql:Str}{ys:List Str}{vs:List V}{ds:List D}{E:Ng->Nk->Prop}
  (J:Inv X pins σ H1 s1) (hex:X.ex=[]) (hdef:defaultsOf params X.env=([],[])) (hq:X.env.qual++"<lambda>" = ql) (hcode:X.env.code=.ref c) (C:OT X.K c PT=true) (hB:X.base.BuiltinsAt X.mg PT) (hgP:mainGlobals≠PT)
  (hmk:ki X.K f=some (PT,pos,ql)) (uq:∀f q,ki X.K f=some q->q.1=PT->q.2=(pos,ql)) (hcl:closureFor scope X.env=pure clos) (hcs:∀y c,clos.lookup y=some c->X.env.cells.lookup y=some c) (hfn:∀y,X.fn y=true)
  (T:vz lf x ql ys params body scope) (hr:aV X.K g α H1 h) (hvs:Paired (fun y v=>(∃c,clos.lookup y=some c)/\X.env.kindOf y=some .cell/\∃i:Nat,X.N[i]?=some y/\σ[i]?=some (some v)) ys vs) (rds:au X.K g α H1 ds vs) :
  wpAny (model X.prog X.w) X.A (eval (.Lambda params body scope pos) X.env) (Made X g α h H1 s1 (.clo lf ds)) E s1:=by
 subst hq
 refine PySem.W.kla_eval hdef ?_
 have Ch:=PySem.W.codeHd_of_K J.kIn C
 have hg:=J.mod.glob.keeps J.bk
 have hb:=zx J.bk hB
 obtain⟨m,hns,hloc⟩:=J.loc
 have fin:∀(h':Heap) (tk:Tok) (c':Addr) (ctv:Ng) (oc:Obj) (vc:Array Ng) (t:Tok) (ps more:Array Ng),H1 PT=some (.tbl ps)->(∀b o,b≠PT->s1.heap.get? b=some o->h'.get? b=some o)->s1.heap.objs.size<=h'.objs.size->h'.get? PT=some (Qd (ps++more)) →
   ps++more = #[rawInt pos.line,rawInt pos.col,.ref c']->h'.get? c'=some oc->oc.data=.fields vc->vc[1]?=some (.str (X.env.qual++"<lambda>") t)->c'≠PT->((H1 c'=none/\s1.heap.objs.size<=c')\/H1 c'=some (AtO c' oc)) →
   Made X g α h H1 s1 (.clo lf ds) (.ref h'.objs.size) { s1 with heap:=h'.push (OZ "<lambda>" (X.env.qual++"<lambda>") params body scope clos ((X.mg "__name__").getD .none) c' ctv),toks:=tk }:=by
  intro h' tk c' ctv oc vc t ps more hPT hk hsz hT hT2 hc hd hv hcP hc1
  have kp:∀b o,h'.get? b=some o->(h'.push (OZ "<lambda>" (X.env.qual++"<lambda>") params body scope clos ((X.mg "__name__").getD .none) c' ctv)).get? b=some o:=fun b o e=>k3 _ e
  have pp:(h'.push (OZ "<lambda>" (X.env.qual++"<lambda>") params body scope clos ((X.mg "__name__").getD .none) c' ctv)).get? h'.objs.size=some (OZ "<lambda>" (X.env.qual++"<lambda>") params body scope clos ((X.mg "__name__").getD .none) c' ctv):=Nm _ rfl
  have M:MkS X.prog X.w (fun b=>b=h'.objs.size\/b=c'\/∃y,clos.lookup y=some b) s1.heap (h'.push (OZ "<lambda>" (X.env.qual++"<lambda>") params body scope clos ((X.mg "__name__").getD .none) c' ctv)) PT ps more H1:=by
   refine⟨J.hok,hPT,fun b o n e=>kp b o (hk b o n e),kp _ _ hT,fun b hb=>?_⟩
   rcases hb with rfl | rfl | ⟨y,hy⟩
   ·exact⟨fun z=>absurd (Nh hT) (by rw[<- z];exact OD _),⟨_,pp⟩,.inl (J.hok.fresh hsz)⟩
   ·refine⟨hcP,⟨_,kp _ _ hc⟩,?_⟩
    rcases hc1 with⟨z,_⟩ | z
    ·exact .inl z
    ·exact .inr ⟨_,z⟩
   ·have z:=J.gM y b (hcs y b hy)
    obtain⟨v,o,e,_⟩:=J.cell y b (hcs y b hy)
    have n:=(bF hPT z).symm
    exact⟨n,⟨o,kp _ _ (hk b o n e)⟩,.inl z⟩
  have atp:=M.at_ (.inl rfl) pp
  have atc:=M.at_ (.inr (.inl rfl)) (kp _ _ hc)
  refine⟨h'.objs.size,_,rfl,rfl,rfl,M.Lb,M.un (hex ▸ J.base) fun b hb=>?_,M.ext,M.Lz hr uq (.inr ⟨c',oc,vc,t,?_,atc,hd,hv⟩),?_,fun b o n e=>kp b o (hk b o (bF hPT n).symm e),fun b o e n hcc=>M.non n fun hb=>?_⟩
  ·rcases hb with rfl | rfl | ⟨y,hy⟩
   ·exact .inl (NT J.sz hsz)
   ·rcases hc1 with⟨_,z⟩ | z
    ·exact .inl (NT J.sz z)
    ·exact .inr (by rw[z];exact fun q=>nomatch q)
   ·exact .inl (J.ok.cab y b (hfn y) (hcs y b hy))
  ·rw[M.pt,hT2]
  ·refine .clo atp ⟨params,body,scope,_,ctv,x,rfl,T⟩ atc hd hv (L2.Paired.pO hvs fun y v ⟨⟨cc,hcc⟩,kd,i,hN,hσ⟩=>?_) (rds.ext M.ext)
   obtain⟨u,ru,lk⟩:=hloc i y v hN hσ (.inr (.inl kd))
   rcases lk with⟨z,_⟩ | ⟨_,c2,hc2,o,e,hdo⟩
   ·rw[kd] at z;cases z
   ·rw[hcs y cc hcc] at hc2
    cases hc2
    have z:=J.gM y cc (hcs y cc hcc)
    exact⟨cc,o,u,hcc,M.at_ (.inr (.inr ⟨y,hcc⟩)) (kp _ _ (hk cc o (bF hPT z).symm e)),hdo,ru⟩
  ·rcases hb with rfl | rfl | ⟨y,hy⟩
   ·exact absurd (Nh e) (Rf.mpr hsz)
   ·rcases hc1 with⟨_,z⟩ | z
    ·exact absurd (Nh e) (Rf.mpr z)
    ·rw[n] at z;cases z
   ·exact hcc y b (hcs y b hy) rfl
 rcases hr.tab f _ hmk with hPT | ⟨c',oc,vc,t,hPT,hc,hd,hv⟩
 ·have hP:=J.hok PT _ hPT
  refine PySem.W.kla_makeFunction hcl J.ok.glob hg hcode Ch hP trivial rfl hgP hb fun c' ctv h' tk hx hge hlt hrec htb=>?_
  obtain⟨c2,oc,vc,t,z,hc,hd,hv⟩:=hrec
  cases z
  refine fin h' tk c' ctv oc vc t _ _ hPT (fun b o n e=>hx b o n e) (by lia) htb (by simp) hc hd hv (fun z=>?_) (.inl ⟨J.hok.fresh hge,hge⟩)
  exact absurd (Nh hP) (by rw[<- z];exact Rf.mpr hge)
 ·have hP:=J.hok PT _ hPT
  refine PySem.W.kla_makeFunctionHit (cv:=.ref c') hcl J.ok.glob hg hcode Ch hP trivial (by simp[codeAmong,rawInt]) hb fun ctv h' tk hk hsz=>?_
  refine fin h' tk c' ctv oc vc t _ #[] hPT (fun b o n e=>hk b o e) hsz (by rw[Array.append_empty];exact hk _ _ hP) (by simp) (hk _ _ (jK J.hok hc)) hd hv (fun z=>?_) (.inr hc)
  rw[z,hPT] at hc;cases hc
theorem um {last:Stmt}{env:Env}:∀rows:List Stmt,execs (rows++[last]) env=(execs rows env >>= fun f=>match f with
  | .next=>exec last env
  | f=>pure f)
 | []=>by
  show(exec last env >>= fun f=>match f with | .next=>pure .next | f=>pure f)=_
  refine Nv ?_ (bind_pure _)
  congr 1
  funext f
  cases f<;>rfl
 | r::rows=>by
  show(exec r env >>= fun f=>match f with | .next=>execs (rows++[last]) env | f=>pure f)=((exec r env >>= fun f=>match f with | .next=>execs rows env | f=>pure f) >>= _)
  rw[bind_assoc]
  congr 1
  funext f
  cases f with
  | next=>exact um rows
  | ret v=>exact(pure_bind _ _).symm
  | brk=>exact(pure_bind _ _).symm
  | cont=>exact(pure_bind _ _).symm
theorem DC {CX:CXT}{P:NC}{w:N4}{K:ab}{mg:Str->Option Ng}{base:Heap}{k:Nat}{f:Addr}{name qual:Str}{params:Sj}{body rows:List Stmt}{last:Stmt}{scope:Rh}{dV kV doc pm cdv ct oc:Ng}{an od:Option Addr}
  {osl:Array (Option Ng)} {N ps:List Str} {sp:Sp} (lk:K.lookup f=some ⟨oc,od,.func (Oh name qual params body scope dV kV doc pm an cdv ct),osl⟩) (hcd:PK K cdv qual=true) (S:aA N ps scope)
  (len:∀vs H Q E,sp vs H Q E->vs.length=ps.length) (hbd:body=rows++[last])
  (hbody:∀(A:N1) (outer:List Env) (s:Nk) (H:Hp) (vs:List V) (Q:VK) (E:XK),eJ k (A.deeper (envOfC qual scope s.heap.objs.size f cdv))->sp vs H Q E →
   ∃t R,PSs (jJ CX P w K mg base N qual scope f cdv A outer s H E) rows t/\t { nx:=R,rt:=fun _ _=>False } (start N vs) H/\∀σ H1 s1,Inv (jJ CX P w K mg base N qual scope f cdv A outer s H E) [] σ H1 s1->R σ H1 →
    wpAny (model P w) (jJ CX P w K mg base N qual scope f cdv A outer s H E).A (exec last (envOfC qual scope s.heap.objs.size f cdv)) (fun fl s2=>∃u,fl=.ret u/\CE outer P w H s Q u s2) (jJ CX P w K mg base N qual scope f cdv A outer s H E).xe s1) :
  dJ P w K mg base CX (k+1) f (Oh name qual params body scope dV kV doc pm an cdv ct) ps sp:=by
 subst hbd
 refine⟨len,fun A outer s H args us vs Q E hr e0 hb r hsp=>?_⟩
 have hl:=len _ _ _ _ hsp
 have KX:=e0.mod.kin.keeps fun b o e=>(e0.bs b o e).1
 have lim:=e0.mod.nolimit.keeps fun b o e=>(e0.bs b o e).1
 have hkind:∀y∈ps.zip us,scope.names.lookup y.1=some .local\/(scope.names.lookup y.1=some .cell/\((cellsFrom (s.heap.objs.size+1) scope.names []).lookup y.1).isSome=true):=fun⟨n,v⟩ hy=>by
  rcases S.par n (Rj hy).1 with q | q
  ·grind
  ·exact .inr ⟨q,PL _ _ _ (.inl q)⟩
 refine codeAny_call_function hr.depth (KX _ _ lk) rfl S.co S.gen rfl (PySem.W.codeRec_of KX hcd) (hb _ _ _ _ ?_)
 refine wpAny_newFunctionEnv_cells S.kind hkind fun env he s1 x=>?_
 subst he
 refine⟨lim.keeps x.toInCall.keep,codeAny_func ?_⟩
 obtain⟨t,R,ht,hq,hlast⟩:=hbody A outer s H vs Q E (hr.deeper _) hsp
 have I:Inv (jJ CX P w K mg base N qual scope f cdv A outer s H E) [] (start N vs) H s1:=qq S hr.hd e0 hl r x
 rw[um]
 refine Ov (gV (thn (ht [] s1 (start N vs) H _ I hq) fun fl s' hs=>?_)) (Q:=fun fl s2=>∃u,fl=Flow.ret u/\CE outer P w H s Q u s2) (fun fl s' hs=>?_) fun e s' hs=>hs
 ·cases fl with
  | next=>
   obtain⟨σ',H',J,q⟩:=hs
   exact hlast σ' H' s' J q
  | ret u=>obtain⟨_,_,_,_,_,q⟩:=hs;simp_all
  | brk=>obtain⟨_,_,_,q⟩:=hs;simp_all
  | cont=>obtain⟨_,_,_,q⟩:=hs;simp_all
 ·obtain⟨u,rfl,q⟩:=hs
  exact q
noncomputable def za:List Nat->En->Option (List D)
 | [],_=>some []
 | i::r,e=>match (e[i]?:Option (Option D)),za r e with
  | some (some d),some ds=>some (d::ds)
  | _,_=>none
noncomputable def Ii (n:Nat) (m:MS) (lf:Str) (ix:List Nat):MF:=fun ds h=>(m (ds.map some++NS (n - ds.length) none) h).bind fun fl h1=>match fl with
 | .nx e=>(match za ix e with
  | some cs=>.ok (.clo lf cs) h1
  | none=>.bad)
 | _=>.bad
theorem u6 {K:ab}{g:GG}{α:List Addr}{H:Hp}{N:List Str}{σ:St}{e:En} (v:jh K g α H e σ):∀{ix:List Nat}{ys:List Str}{cs:List D},ix.map (fun i=>N[i]?)=ys.map some->za ix e=some cs →
  ∃vs,Paired (fun y v=>∃i:Nat,N[i]?=some y/\σ[i]?=some (some v)) ys vs/\au K g α H cs vs
 | [],[],_,_,h=>by cases h;exact⟨[],.nil,.nil⟩
 | [],_::_,_,e,_=>by cases e
 | _::_,[],_,e,_=>by cases e
 | i::ix,y::ys,cs,hi,h=>by
  simp only[ND,RY] at hi
  unfold za at h
  split at h
  ·rename_i d ds e1 e2
   cases h
   obtain⟨u,hu,ru⟩:=v.vars i d e1
   obtain⟨vs,p,r⟩:=u6 v hi.2 e2
   exact⟨u::vs,.cons ⟨i,hi.1,hu⟩ p,.cons ru r⟩
  grind
noncomputable def mkU (K:ab):Bool:=(K.filterMap fun p=>ki K p.1).all fun a=>(K.filterMap fun p=>ki K p.1).all fun b=>!(SK a.1 b.1) || decide (a.2=b.2)
theorem BS {K:ab} (h:K.lookup f=some o):∃p∈K,p.1=f:=by
 induction K with
 | nil=>cases h
 | cons q r ih=>
  grind
theorem sP {K:ab} (h:ki K f=some q):q∈K.filterMap fun p=>ki K p.1:=by
 cases e:K.lookup f with
 | none=>unfold ki at h;simp_all
 | some o=>
  obtain⟨p,hp,e1⟩:=BS e
  grind
theorem Ic {K:ab} (u:mkU K=true) (h:ki K f=some q) (h':ki K f'=some q') (e:q'.1=q.1):q'.2=q.2:=by
 have:=NU.mp (NU.mp u q' (sP h')) q (sP h)
 simp_all
structure Mkr (K) (mg) (base:Heap) (fd:Qr) (c PT):Prop where
 code:fd.code=.ref c
 hd:OT K c PT=true
 bat:base.BuiltinsAt mg PT
 ne:mainGlobals≠PT
 uq:mkU K=true
theorem DL {K:ab}{c PT:Addr} (e:OT K c PT=true):∃k d vs s,K.lookup c=some ⟨k,d,.fields vs,s⟩/\vs[11]?=some (.ref PT):=by
 unfold OT at e
 split at e
 ·rename_i vs _ hk
  simp only[NQ] at e
  obtain⟨⟨⟨⟨⟨e1,_⟩,_⟩,_⟩,_⟩,_⟩:=e
  split at e1
  ·rename_i P' h11
   have hP:=beq_iff_eq.mp e1
   subst hP
   exact⟨_,_,vs,_,hk,h11⟩
  ·cases e1
 ·cases e
theorem Dm {K:ab}{f c PT:Addr} (lk:K.lookup f=some ⟨oc,od,.func fd,osl⟩) (hc:fd.code=.ref c) (C:OT K c PT=true) (hm:CW fd=some pos) :
  ki K f=some (PT,pos,fd.qualname++".<locals>." ++ "<lambda>"):=by
 obtain⟨k,d,vs,s,e,e11⟩:=DL C
 unfold ki
 simp_all
section
variable {P:NC}{w:N4}{K:ab}{mg:Str->Option Ng}{base:Heap}{g:GG}
theorem II {st:Stmt}{c PT:Addr} (F:Fun K x x st f fd) (S:aA N ps (ak st)) (M:Mkr K mg base fd c PT)
  (hbd:b8 st=rows++[.Return (some (.Lambda params body scope pos)) rpos]) (hdef:∀env,defaultsOf params env=([],[]))
  (hcl:∀L cdv , ∃clos,closureFor scope (envOfC x (ak st) L f cdv)=pure clos/\(∀z c,clos.lookup z=some c->(envOfC x (ak st) L f cdv).cells.lookup z=some c)/\∀z∈ys,∃c,clos.lookup z=some c)
  (hys:∀z∈ys,(ak st).names.lookup z=some .cell) (hix:ix.map (fun i=>N[i]?)=ys.map some) (T:vz lf y (x++".<locals>." ++ "<lambda>") ys params body scope)
  (hb:∀cdv A outer s H E , eJ k (A.deeper (envOfC x (ak st) s.heap.objs.size f cdv)) →
   PSs (jJ CX0 P w K mg base N x (ak st) f cdv A outer s H E).nox rows (tMS K g E00 mb)):dJ P w K mg base CX0 (k+1) f fd ps (spM K g ps.length (Ii N.length mb lf ix)):=by
 obtain⟨oc,od,kV,doc,pm,an,cdv,ct,osl,rfl,lk,hcd⟩:=F.ex
 have hmk:CW (Oh x x (dv st) (b8 st) (ak st) .none kV doc pm an cdv ct)=some pos:=by
  unfold CW Oh
  simp_all
 have hT:=Dm lk M.code M.hd hmk
 obtain rfl:cdv=.ref c:=M.code
 refine DC lk hcd S (fun vs H Q E h=>h.1) hbd fun A outer s H vs Q E hr hsp=>?_
 obtain⟨hl,α,ds,h,rs,hh,w1⟩:=hsp
 refine⟨_,fun σ H1=>∃α1 e h1 cs,Ext K α H α1 H1/\cZ K g α1 H1 e σ h1/\za ix e=some cs/\aO K g α H Q (.clo lf cs) h1,(hb (.ref c) A outer s H E hr).nox,?_,fun σ H1 s1 J hR=>?_⟩
 ·refine tMS.use ⟨hh,qI rs⟩ w1.bind fun fl h' H' α' e r kk=>?_
  cases fl with
  | nx e'=>
   intro σ' s'
   dsimp only at kk
   cases ec:za ix e' with
   | none=>rw[ec] at kk;exact kk.elim
   | some cs=>rw[ec] at kk;exact⟨α',e',h',cs,e,s',ec,kk⟩
  | bk e'=>exact kk.elim
  | ct e'=>exact kk.elim
  | rt d=>exact kk.elim
 ·obtain⟨α1,e,h1,cs,ex,sr,ec,po⟩:=hR
  obtain⟨clos,hc1,hc2,hc3⟩:=hcl s.heap.objs.size (.ref c)
  obtain⟨vs',pv,rds⟩:=u6 sr.vs hix ec
  have pv2:Paired (fun z v=>(∃c,clos.lookup z=some c)/\(ak st).names.lookup z=some .cell/\∃i:Nat,N[i]?=some z/\σ[i]?=some (some v)) ys vs':=by
   clear ec rds hix T hcl
   induction pv with
   | nil=>exact .nil
   | cons q t ih=>exact .cons ⟨hc3 _ (Nt ..),hys _ (Nt ..),q⟩ (ih (fun z hz=>hys z (ox _ hz)) (fun z hz=>hc3 z (ox _ hz)))
  refine wpAny_Return_some (thn (BE J rfl (hdef _) rfl rfl M.hd M.bat M.ne hT (fun f' q e1 e2=>Ic M.uq hT e1 e2) hc1 hc2 (fun _=>rfl) T sr.heap pv2 rds) fun u s2 md=>?_)
  obtain⟨p,H2,rfl,os,gn,hok,un,ex2,hr2,rd,_,_⟩:=md
  exact⟨_,rfl,.ref p,H2,os.trans J.os,by rw[gn];exact J.bare,un,hok,rfl,po _ H2 α1 (ex.trans ex2) hr2 rd⟩
end
noncomputable def iA (ts:List Addr) (Hs:Hp):Hp:=fun b=>if b∈ts then some (.tbl #[]) else Hs b
theorem zb {P:NC}{w:N4}{K:ab}{mg mb:Str->Option Ng}{k:Nat}{fa a:Addr}{fd:Qr}{x:Str}{sp:Sp}{s₁:Nk}{vs:List Ng}{ns:List Int}{ts:List Addr}
  (KX:K.In s₁.heap) (hns:s₁.heap.Ns mainGlobals mg) (hb:s₁.heap.Ns builtinsNs mb) (hbb:∀x:Str,x≠"__name__" -> mb x=bootBuiltins x) (hlim:s₁.heap.NoLimit) (hg:s₁.gens = #[])
  (hbm:∃bm ob,mg "__builtins__" = some (.ref bm)/\bm≠builtinsNs/\s₁.heap.get? bm=some ob/\ob.cls=.type "module" /\ ob.dict=some builtinsNs/\ob.data=.plain)
  (hts:∀P∈ts,s₁.heap.get? P=some (Qd #[])) (hct:∀P∈ts,∃c,PySem.W.CodeHd s₁.heap c P) (hKt:∀P∈ts,K.lookup P=none)
  (ha:s₁.heap.get? a=some { cls:=.type "list", data:=.seq vs.toArray }) (hi:IntsAre vs ns) (hl:ns.length<=sizeLine) (hr:eJ k callerA)
  (F:∀base:Heap,K.In base->base.Ns mainGlobals mg->(∀P∈ts,base.BuiltinsAt mg P)->dJ P w K mg base CX0 k fa fd [x] sp) (hbind:∀(s:Nk) (u:Ng),SH s fd ⟨[u],[]⟩ [(x,u)])
  (hsp:∀H:Hp,(∀P∈ts,H P=some (.tbl #[]))->Fro K H a (ns.map V.int)->sp [.ref a] H (fun v _=>v=.bl true) fun _ _ _=>False) :
  codeAny (model P w) callerA (.call (.ref fa) ⟨[.ref a],[]⟩) (fun r s'=>r=.ok (.ret (.bool true))/\OldK s₁.heap s'.heap/\s'.os=s₁.os/\RP s'.gens) s₁:=by
 have rv:=qS hi
 have lenV:=hi.length
 have aT:a∉ts:=fun z=>by simp_all
 have core:∀Hs:Hp,LW Hs->Fro K (iA ts Hs) a (ns.map V.int)->HOk P w Hs s₁.heap->(∀b,Hs b≠none->b=a)->(Hs a≠none->K.lookup a=none) →
   codeAny (model P w) callerA (.call (.ref fa) ⟨[.ref a],[]⟩) (fun r s'=>r=.ok (.ret (.bool true))/\OldK s₁.heap s'.heap/\s'.os=s₁.os/\RP s'.gens) s₁:=by
  intro Hs hO hS hok0 hA hK
  have inT:∀{b:Addr},b∈ts->iA ts Hs b=some (.tbl #[]):=fun h=>by unfold iA;simp_all
  have offT:∀{b:Addr},b∉ts->iA ts Hs b=Hs b:=fun h=>by unfold iA;simp_all
  have hok:HOk P w (iA ts Hs) s₁.heap:=fun b u e=>by
   by_cases hb:b∈ts
   ·rw[inT hb] at e;cases e;exact hts b hb
   ·rw[offT hb] at e
    refine(hok0 b u e).kW (fun _ _ _ z=>z) (fun c z=>?_) fun c xs z=>?_
    ·grind
    grind
  have non:∀{b:Addr} {o:Obj},s₁.heap.get? b=some o->(∀a n,o.data≠.seq a n)->(∀a,o.data≠.fields a)->iA ts Hs b=none:=fun{b o} e d1 d2=>by
   by_cases hb:b∈ts
   ·grind
   grind
  have base_of:∀{b:Addr} {o:Obj},s₁.heap.get? b=some o->iA ts Hs b=none->(o7 s₁.heap (iA ts Hs)).get? b=some o:=fun e n=>Bc e n
  have nsK:∀{b:Addr} {m:Str->Option Ng},s₁.heap.Ns b m->(o7 s₁.heap (iA ts Hs)).Ns b m:=fun{b m} ⟨o,es,ep,e,d,r⟩=>⟨o,es,ep,base_of e (non e (fun _ _ z=>by rw[d] at z;cases z) fun _ z=>by rw[d] at z;cases z),d,r⟩
  have hKb:K.In (o7 s₁.heap (iA ts Hs)):=fun b o e=>base_of (KX b o e) (by
   grind)
  have hM:Mod K mg (o7 s₁.heap (iA ts Hs)):=⟨hKb,nsK hns,⟨mb,nsK hb,hbb⟩,let ⟨mc,h1,h2⟩:=hlim;⟨mc,nsK h1,h2⟩⟩
  have hBA:∀P∈ts,(o7 s₁.heap (iA ts Hs)).BuiltinsAt mg P:=fun PT hP=>by
   obtain⟨bm,ob,b1,b2,b3,b4,b5,b6⟩:=hbm
   refine⟨bm,ob,b1,b2,fun z=>?_,fun z=>?_,base_of b3 (non b3 (fun _ _ z=>by rw[b6] at z;cases z) fun _ z=>by rw[b6] at z;cases z),b4,b5,b6⟩
   ·obtain⟨o,es,ep,e,d,_⟩:=hns
    rw[<- z,b3] at e;cases e;rw[b6] at d;cases d
   grind
  have e0:Ai P w K mg (o7 s₁.heap (iA ts Hs)) callerA [] s₁ (iA ts Hs):=⟨rfl,hM,fun b o e=>C_ e,Nat.le_of_eq (zE _ _),trivial,fun b hb=>absurd (show b∈([]:List Addr) from hb) (by simp),hok,.of_eq hg⟩
  refine O_ ((F _ hKb (nsK hns) hBA).run callerA [] s₁ (iA ts Hs) ⟨[.ref a],[]⟩ [.ref a] [.ref a] _ _ hr e0 (hbind s₁ (.ref a)) (.cons rfl .nil) (hsp _ (fun P hP=>inT hP) hS)) fun r s' h=>?_
  cases r with
  | error e=>exact h.elim
  | ok fl=>
   cases fl with
   | next=>exact Rc h
   | brk=>exact Rc h
   | cont=>exact Rc h
   | ret u=>
    obtain⟨v,H',os,bare,un,hok',r',q⟩:=h
    have q':v=.bl true:=q
    subst q'
    obtain rfl:u=SQ true:=r'
    have old:∀b o,s₁.heap.get? b=some o->b∉ts->s'.heap.get? b=some o:=fun b o e hb=>by
     cases q:iA ts Hs b with
     | none=>exact un.keep b o e q (by intro z;exact absurd (show b∈([]:List Addr) from z) (by simp)) (by simp)
     | some u=>
      rw[offT hb] at q
      rcases hO b with z | ⟨ob,xs,z⟩
      ·rw[q] at z;cases z
      ·have z2:=un.kL b ob _ ((offT hb).trans z)
       obtain⟨e1,_⟩:=hok0 b _ z
       obtain⟨e2,_⟩:=hok' b _ z2
       grind
    have grown:∀b∈ts,∃ps,s'.heap.get? b=some (Qd ps):=fun b hb=>by
     obtain⟨more,e1⟩:=un.my b _ (inT hb)
     exact⟨_,hok' b _ e1⟩
    refine⟨rfl,⟨fun b o e=>?_,fun b o e=>?_⟩,os,bare⟩
    ·by_cases hb:b∈ts
     ·obtain⟨ps,e1⟩:=grown b hb
      obtain⟨c,C⟩:=hct b hb
      have e2:=hts b hb
      rw[e] at e2;cases e2
      exact .inr (.inl ⟨(C.tab (hts b hb)).isCodeTable,rfl,#[],ps,rfl,by rw[e1];simp⟩)
     ·exact .inl (old b o e hb)
    ·by_cases hb:b∈ts
     ·obtain⟨ps,e1⟩:=grown b hb;exact⟨_,e1⟩
     ·exact⟨o,old b o e hb⟩
 cases hk:K.lookup a with
 | some o=>
  have e:=KX a o hk
  rw[ha] at e
  cases e
  refine core (fun _=>none) (fun _=>.inl rfl) (.inr ⟨_,vs.toArray,_,hk,rfl,rfl,rfl,by simp_all,by lia⟩) (fun b u z=>by have z':(none:Option HO)=some u:=z;cases z') (fun b z=>absurd rfl z) fun z=>absurd rfl z
 | none=>
  refine core (fun b=>if b=a then some (.frz { cls:=.type "list", data:=.seq vs.toArray } (.lst (ns.map V.int))) else none) (fun b=>?_) (.inl ⟨{ cls:=.type "list", data:=.seq vs.toArray },?_⟩) (fun b u z=>?_) (fun b z=>?_) fun _=>hk
  ·by_cases hb:b=a
   ·exact .inr ⟨_,_,if_pos hb⟩
   ·exact .inl (if_neg hb)
  ·unfold iA;rw[if_neg aT];exact if_pos rfl
  ·by_cases hb:b=a
   ·have z':=(if_pos hb).symm.trans z
    cases z'
    subst hb
    exact⟨ha,by rw[Nw];exact hl,vs,_,rv,ha⟩
   ·have z':=(if_neg hb).symm.trans z
    cases z'
  ·by_cases hb:b=a
   ·exact hb
   ·exact absurd (if_neg hb) z
noncomputable def tabOf (K:ab) (c:Addr):Addr:=match K.lookup c with
 | some ⟨_,_,.fields vs,_⟩=>(match (vs[11]?:Option Ng) with | some (.ref P)=>P | _=>0)
 | _=>0
noncomputable def G4 (K:ab) (ts:List Addr):Bool:=(K.filterMap fun p=>ki K p.1).all (fun q=>ts.any (SK q.1))&&ts.all fun P=>(K.lookup P).isNone&&K.any fun p=>match p.2.data with
 | .func fd=>(match fd.code with
  | .ref c=>OT K c P
  | _=>false)
 | _=>false
noncomputable def FF (K:ab) (ts:List Addr) (x:Str) (st:Stmt):Prop:=∃f fd c,NX K mainGlobals x=some (some (.ref f))/\Fun K x x st f fd/\fd.code=.ref c/\OT K c (tabOf K c)=true/\ts.any (SK (tabOf K c))=true/\SK mainGlobals (tabOf K c)=false
noncomputable def CM (K:ab) (mg:Str->Option Ng) (base:Heap) (x:Str) (st:Stmt):Prop:=∀f fd,mg x=some (.ref f)->Fun K x x st f fd->∃c PT,Mkr K mg base fd c PT
theorem Iw {K:ab}{st:Stmt}{kV doc pm ct:Ng} (a:NX K mainGlobals x=some (some (.ref f)))
  (l:K.lookup f=some ⟨oc,od,.func (Oh x x (dv st) (b8 st) (ak st) .none kV doc pm an (.ref c) ct),osl⟩) (cc:PK K (.ref c) x=true) (k:Oy K (.ref f)=true)
  (h1:OT K c (tabOf K c)=true) (h2:ts.any (SK (tabOf K c))=true) (h3:SK mainGlobals (tabOf K c)=false):FF K ts x st:=⟨f,_,c,a,wx l cc k,rfl,h1,h2,h3⟩
theorem CM.of {K:ab}{st:Stmt} (X:K.In h) (G:h.Ns mainGlobals mg) (hB:∀P∈ts,base.BuiltinsAt mg P) (hU:mkU K=true) (m:FF K ts x st):CM K mg base x st:=by
 intro f fd hm F
 obtain⟨f2,fd2,c,a,F2,hc,h1,h2,h3⟩:=m
 have hm2:=P4 X G a
 rw[hm] at hm2
 cases hm2
 obtain⟨oc,od,osl,l1⟩:=cb F
 obtain⟨oc',od',osl',l2⟩:=cb F2
 rw[l1] at l2
 cases l2
 obtain⟨P,hP,e⟩:=Qh.mp h2
 have e:=Nat.eq_of_beq_eq_true e
 refine⟨c,tabOf K c,hc,h1,hB _ (by simp_all),fun z=>?_,hU⟩
 simp_all
theorem CF {k:Nat}{m:MF}{l:PySem.W.OpenLaw}{q:NC}{loose:List Str}{XP:(Str->Option Ng)->Heap->Prop}{YP:N4->Heap->Prop}{d:DefRec}{K:Params->ab}{ts:List Addr} (hn:l.most=some 63) (hdf:d.params.defaults=[]) (hr:eJ k callerA)
  (hY:∀(w:N4) (h:Heap),YP w h->(K w.params).In h) (hT:∀(w:N4) (h:Heap),YP w h->∀P∈ts,h.get? P=some (Qd #[])) (hI:∀P,G4 (K P) ts=true)
  (ok:∀ns:List Int,ns.length<=63->∃h,m [.scr (ns.map D.int)] []=.ok (.bl true) h)
  (F:∀(w:N4) (mg:Str->Option Ng) (fa:Addr) (h:Heap),(K w.params).In h->h.Ns mainGlobals mg->mg d.name=some (.ref fa) →
   ∃fd:Qr,(∀(s:Nk) (u:Ng),SH s fd ⟨[u],[]⟩ [("_law_script", u)])/\∀base:Heap,(K w.params).In base->base.Ns mainGlobals mg->(∀P∈ts,base.BuiltinsAt mg P)->dJ l.prog w (K w.params) mg base CX0 k fa fd ["_law_script"] (spM (K w.params) (gOf mg) 1 m)) :
  PySem.W.WalkO q loose XP YP l.row.toRowW d [] (fun f vs=>SU f vs):=by
 refine Att.vT hn hdf fun w aD s₁ mg mb fa o pm cd doc a vs ns G Y ho hd hcd hmg hobj hints hlen hg=>?_
 have KX:=hY w _ Y
 obtain⟨fd,hb,hF⟩:=F w mg fa _ KX G.T.g hmg
 have i:=hI w.params
 unfold G4 at i
 obtain⟨i1,i2⟩:=P9.mp i
 have tq:∀P∈ts,∃c,(K w.params).lookup P=none/\OT (K w.params) c P=true:=fun P hP=>by
  have z:=P9.mp (NU.mp i2 P hP)
  obtain⟨p,_,y⟩:=Qh.mp z.2
  split at y
  ·split at y
   ·rename_i c _;exact⟨c,by simpa using z.1,y⟩
   grind
  grind
 refine zb (sp:=fun vs H Q _=>∃a ns,vs=[V.ref a]/\ns.length<=63/\(∀P∈ts,H P=some (.tbl #[]))/\Fro (K w.params) H a (ns.map V.int)/\∀v H',v=V.bl true->Q v H') KX G.T.g G.T.b G.T.builtins G.T.nolimit hg G.T.bmain (hT w _ Y) (fun P hP=>let ⟨c,_,e⟩:=tq P hP;⟨c,PySem.W.codeHd_of_K KX e⟩) (fun P hP=>let ⟨_,e,_⟩:=tq P hP;e) hobj hints (NT hlen (by decide)) hr
  (fun base kb nb bb=>(hF base kb nb bb).imp fun vs H Q E z=>?_) hb (fun H h1 h2=>⟨a,ns,rfl,hlen,h1,h2,fun _ _ z=>z⟩)
 obtain⟨a,ns,rfl,hl,hO,hS,hQ⟩:=z
 obtain⟨hh,e⟩:=ok ns hl
 refine⟨rfl,[],[.scr (ns.map D.int)],[],.cons (.scr hS (au.ints ns)) .nil,⟨rfl,fun n m p z=>by simp at z,fun n p o z=>by simp at z,fun f q e=>.inl (hO _ ?_)⟩,?_⟩
 ·obtain⟨p,hp,z⟩:=Qh.mp (NU.mp i1 q (sP e))
  simp_all
 ·rw[e]
  intro v H' α' _ _ rd
  cases rd
  simp_all
noncomputable def iZ (cells:List (Str × Addr)):List (Str × Pp)->List (Str × Addr)->List (Str × Addr)
 | [],cs=>cs
 | (n,k)::r,cs=>iZ cells r (if k == .free then (n,(cells.lookup n).getD 0)::cs else cs)
theorem xH {env:Env}:∀(ns:List (Str × Pp)) (cs:List (Str × Addr)),(∀q∈ns,q.2=.free->(env.cells.lookup q.1).isSome=true) →
  (forIn ns cs fun(x:Str × Pp) (r:List (Str × Addr))=>match x with
   | (name,kind)=>if (kind == .free)=true then do let c ← cellOf env name;pure (OQ ((name,c)::r)) else pure (OQ r):Sem (List (Str × Addr)))=pure (iZ env.cells ns cs)
 | [],cs,_=>by rfl
 | (n,k)::r,cs,h=>by
  rw[Rk]
  have ih:=fun cs=>xH r cs fun q hq=>h q (ox _ hq)
  by_cases hk:(k == .free)=true
  ·obtain⟨c,hc⟩:=Pu.mp (h (n,k) (Nt ..) (beq_iff_eq.mp hk))
   simp only[hk,iZ,hc,cellOf]
   exact ih _
  ·simp only[Bool.not_eq_true] at hk
   simp only[hk,iZ]
   exact ih _
theorem Dc (h:∀q∈scope.names,q.2=.free->(env.cells.lookup q.1).isSome=true):closureFor scope env=pure (iZ env.cells scope.names []):=by
 exact(congrArg (fun m:Sem (List (Str × Addr))=>m >>= fun s=>pure s) (xH scope.names [] h)).trans (pure_bind _ _)
theorem uS {cells:List (Str × Addr)}{z:Str}{c:Addr}:∀(ns:List (Str × Pp)) (cs:List (Str × Addr)),(∀q∈ns,q.2=.free->(cells.lookup q.1).isSome=true)->(∀z c,cs.lookup z=some c->cells.lookup z=some c)->(iZ cells ns cs).lookup z=some c->cells.lookup z=some c
 | [],cs,_,h,e=>h z c e
 | (n,k)::r,cs,hf,h,e=>by
  refine uS r _ (fun q hq=>hf q (ox _ hq)) (fun z c=>?_) e
  split
  ·rename_i hk
   rw[Og]
   split
   ·rename_i hz
    intro q
    cases q
    obtain⟨c,hc⟩:=Pu.mp (hf (n,k) (Nt ..) (beq_iff_eq.mp hk))
    simp_all
   simp_all
  simp_all
theorem qz {cells:List (Str × Addr)}{z:Str}:∀(ns:List (Str × Pp)) (cs:List (Str × Addr)),(∃c,cs.lookup z=some c)->∃c,(iZ cells ns cs).lookup z=some c
 | [],cs,h=>h
 | (n,k)::r,cs,h=>by
  refine qz r _ ?_
  grind
theorem uj {cells:List (Str × Addr)}{z:Str}:∀(ns:List (Str × Pp)) (cs:List (Str × Addr)),(z,OF)∈ns->∃c,(iZ cells ns cs).lookup z=some c
 | (n,k)::r,cs,h=>by
  rcases Nx.mp h with e | e
  ·cases e
   refine qz r _ ?_
   simp
  ·exact uj r _ e
section
variable {P:NC}{w:N4}{K:ab}{mg:Str->Option Ng}{base:Heap}{g:GG}
theorem Fx {x:Str}{st:Stmt}{f:Addr}{fd:Qr}{N ps:List Str}{k:Nat}{mb:MS} (rows:List Stmt){params:Sj}{body:Expr}{scope:Rh}{pos rpos:Pos} (lf y:Str) (ys:List Str) (ix:List Nat){c PT:Addr} (F:Fun K x x st f fd) (S:aA N ps (ak st)) (M:Mkr K mg base fd c PT)
  (hbd:b8 st=rows++[.Return (some (.Lambda params body scope pos)) rpos]) (hdef:∀env,defaultsOf params env=([],[]))
  (hfr:∀q∈scope.names,q.2=.free->(ak st).names.lookup q.1=some .cell) (hyf:∀z∈ys,(z,OF)∈scope.names)
  (hix:ix.map (fun i=>N[i]?)=ys.map some) (T:vz lf y (x++".<locals>." ++ "<lambda>") ys params body scope)
  (hb:∀(cdv:Ng) (A:N1) (outer:List Env) (s:Nk) (H:Hp) (E:XK),eJ k (A.deeper (envOfC x (ak st) s.heap.objs.size f cdv)) →
   PSs (jJ CX0 P w K mg base N x (ak st) f cdv A outer s H E).nox rows (tMS K g E00 mb)):dJ P w K mg base CX0 (k+1) f fd ps (spM K g ps.length (Ii N.length mb lf ix)):=by
 refine II F S M hbd hdef (fun L cdv=>?_) (fun z hz=>hfr (z,.free) (hyf z hz) rfl) hix T hb
 have hs:∀q∈scope.names,q.2=.free->((envOfC x (ak st) L f cdv).cells.lookup q.1).isSome=true:=fun q hq e=>PL _ _ _ (.inl (hfr q hq e))
 exact⟨_,Dc hs,fun z c e=>uS scope.names [] hs (fun _ _ z=>nomatch z) e,fun z hz=>uj scope.names [] (hyf z hz)⟩
end
end L2.FE
namespace L2.FE
open PySem
section
variable {β γ:Type}{h h1:Hh}{env:En}
@[simp] theorem f_ {f:β->Hh->R γ}:(R.ok b h).bind f=f b h:=Nv rfl rfl
@[simp] theorem Ju:(R.bad).bind f=.bad:=Nv rfl rfl
@[simp] theorem J1 [Decidable c]{a b:R β}{f:β->Hh->R γ}:(if c then a else b).bind f=if c then a.bind f else b.bind f:=by split<;>rfl
@[simp] theorem e_C:cC d env h=.ok d h:=Nv rfl rfl
@[simp] theorem Hw {r:En}:af 0 (some d::r) h=.ok d h:=Nv rfl rfl
@[simp] theorem Fo {r:En}:af (i+1) (x::r) h=af i r h:=Nv rfl rfl
@[simp] theorem M8:aq f a b env h=(a env h).bind fun x h1=>(b env h1).bind fun y h2=>f x y h2:=Nv rfl rfl
@[simp] theorem Nd:cUn f a env h=(a env h).bind fun x h1=>f x h1:=Nv rfl rfl
@[simp] theorem Iu:aj env h=.ok [] h:=Nv rfl rfl
@[simp] theorem Ie:ae a r env h=(a env h).bind fun x h1=>(r env h1).bind fun xs h2=>.ok (x::xs) h2:=Nv rfl rfl
@[simp] theorem H_:ah f a env h=(a env h).bind f:=Nv rfl rfl
@[simp] theorem Dn:g_ f o a env h=(o env h).bind fun x h1=>if isL x h1=true then (a env h1).bind fun xs h2=>f x xs h2 else .bad:=Nv rfl rfl
@[simp] theorem Mx:aB f a env h=(a env h).bind f:=Nv rfl rfl
@[simp] theorem Ln:cQ a env h=(a env h).bind fun b h1=>.ok (!b) h1:=Nv rfl rfl
@[simp] theorem MG:qJ a b env h=(a env h).bind fun x h1=>if x=true then b env h1 else .ok false h1:=Nv rfl rfl
@[simp] theorem MP:gy a b env h=(a env h).bind fun x h1=>if x=true then .ok true h1 else b env h1:=Nv rfl rfl
@[simp] theorem M9:asB (.bl b) h=.ok b h:=Nv rfl rfl
@[simp] theorem LN:xW a b env h=(a env h).bind fun x h1=>(asB x h1).bind fun k h2=>if k=true then b env h2 else .ok (.bl false) h2:=Nv rfl rfl
@[simp] theorem KL:gz f f' a b c env h=(a env h).bind fun x h1=>(b env h1).bind fun y h2=>(f x y h2).bind fun z h3=>(asB z h3).bind fun k h4=>if k=true then (c env h4).bind fun w h5=>f' y w h5 else .ok (.bl false) h4:=Nv rfl rfl
@[simp] theorem IP:gg env h=.ok none h:=Nv rfl rfl
noncomputable def EZ:D->Hh->R (Option Int):=fun d h1=>match d with
 | .int i=>.ok (some i) h1
 | _=>.bad
@[simp] theorem KJ:EZ (.int i) h=.ok (some i) h:=Nv rfl rfl
@[simp] theorem LM:gi a env h=(a env h).bind EZ:=Nv rfl rfl
@[simp] theorem KI:fH nl a l u env h=(a env h).bind fun x h1=>(l env h1).bind fun lo h2=>(u env h2).bind fun hi h3=>ze nl x lo hi h3:=Nv rfl rfl
@[simp] theorem K2:bc env h=.ok (.nx env) h:=Nv rfl rfl
noncomputable def Gf (b:MS):Fl->Hh->R Fl:=fun fl h1=>match fl with
 | .nx e=>b e h1
 | fl=>.ok fl h1
@[simp] theorem LA:Gf b (.nx e) h=b e h:=Nv rfl rfl
@[simp] theorem Nb:Gf b (.rt d) h=.ok (.rt d) h:=Nv rfl rfl
@[simp] theorem IY:ax a b env h=(a env h).bind (Gf b):=by
 rfl
@[simp] theorem Mc:cK a env h=(a env h).bind fun _ h1=>.ok (.nx env) h1:=Nv rfl rfl
@[simp] theorem MZ:aU a env h=(a env h).bind fun d h1=>.ok (.rt d) h1:=Nv rfl rfl
@[simp] theorem MN:bR c a b env h=(c env h).bind fun x h1=>if x=true then a env h1 else b env h1:=Nv rfl rfl
@[simp] theorem M6:bf i a env h=(a env h).bind fun d h1=>.ok (.nx (env.set i (some d))) h1:=Nv rfl rfl
noncomputable def J4 (i j:Nat) (env:En):List D->Hh->R Fl:=fun ds h1=>match ds with
 | [x,y]=>.ok (.nx ((env.set i (some x)).set j (some y))) h1
 | _=>.bad
@[simp] theorem LH:J4 i j env [x,y] h=.ok (.nx ((env.set i (some x)).set j (some y))) h:=Nv rfl rfl
@[simp] theorem MY:zf i j a env h=(a env h).bind (J4 i j env):=by
 rfl
@[simp] theorem Ht:gN i d env h=.ok (env.set i (some d)) h:=Nv rfl rfl
@[simp] theorem MU:gT2 i j (.tup [x,y]) env h=.ok ((env.set i (some x)).set j (some y)) h:=Nv rfl rfl
@[simp] theorem KN:jF f o i v env h=(v env h).bind fun x h1=>(o env h1).bind fun y h2=>(i env h2).bind fun z h3=>(f y z x h3).bind fun _ h4=>.ok (.nx env) h4:=Nv rfl rfl
noncomputable def Ga:Fl->Hh->R D:=fun fl h1=>match fl with
 | .rt d=>.ok d h1
 | .nx _=>.ok .non h1
 | _=>.bad
@[simp] theorem Nc:Ga (.rt d) h=.ok d h:=Nv rfl rfl
@[simp] theorem Nf:Ga (.nx e) h=.ok .non h:=Nv rfl rfl
theorem b9:bN n m ds h=(m (ds.map some++NS (n - ds.length) none) h).bind Ga:=by
 rfl
section
variable {nl:NL}
@[simp] theorem K0:aW nl (.int i) (.int j) h=.ok (.int (i+j)) h:=Nv rfl rfl
@[simp] theorem Lm:dm (.int i) (.int j) h=.ok (.int (i - j)) h:=Nv rfl rfl
@[simp] theorem L9:wW (.int i) h=.ok (.int (-i)) h:=Nv rfl rfl
@[simp] theorem MQ:dLt (.int i) (.int j) h=.ok (.bl (decide (i<j))) h:=by unfold dLt;rw[nX];rfl
@[simp] theorem MH:dLe (.int i) (.int j) h=.ok (.bl (decide (i<=j))) h:=by unfold dLe;rw[sZ];rfl
@[simp] theorem MJ:dGt (.int i) (.int j) h=.ok (.bl (decide (j<i))) h:=by unfold dGt;rw[nX];rfl
@[simp] theorem MW:dGe (.int i) (.int j) h=.ok (.bl (decide (j<=i))) h:=by unfold dGe;rw[sZ];rfl
@[simp] theorem Ld:ll nl (.int i) (.int j) h=if sml i=true/\sml j=true then .ok (.int (i*j)) h else .bad:=Nv rfl rfl
@[simp] theorem Ml:tZ (.int i) (.int j) h=if 0<j/\sml j=true then .ok (.int (i / j)) h else .bad:=Nv rfl rfl
@[simp] theorem L6:nc (.int i) (.int j) h=if 0<j then .ok (.int (i % j)) h else .bad:=Nv rfl rfl
@[simp] theorem L7:GZ (.int i) (.int j) h=if 0<=j/\j.natAbs<=1000/\sml i=true then .ok (.int (i ^ j.toNat)) h else .bad:=Nv rfl rfl
@[simp] theorem Ms:BD [.int i,.int j] h=.ok (.int (max i j)) h:=by
 have:(if j > i then j else i)=max i j:=by split<;>lia
 rw[<- this];rfl
@[simp] theorem Mt:yX [.bl b] h=.ok (.int (if b then 1 else 0)) h:=Nv rfl rfl
@[simp] theorem M7:ip ds h=if ds.length<=1000000 then .ok (.tup ds) h else .bad:=Nv rfl rfl
@[simp] theorem M3:jd nl ds h=if ds.length<=1000000 then nl ds h else .bad:=Nv rfl rfl
@[simp] theorem MD:tD ds h=.ok (.ref h.length) (h++[.lst ds]):=Nv rfl rfl
@[simp] theorem K5:ay ds h=.ok (.frl ds) h:=Nv rfl rfl
@[simp] theorem Mq:bH [.tup ds] h=.ok (.int ds.length) h:=Nv rfl rfl
@[simp] theorem Lw:bH [.scr ds] h=.ok (.int ds.length) h:=Nv rfl rfl
noncomputable def ixK (ds:List D) (i:Int) (h:Hh):R D:=match atI ds i with
 | some d=>.ok d h
 | none=>.bad
@[simp] theorem ET:dIx (.tup ds) (.int i) h=ixK ds i h:=Nv rfl rfl
@[simp] theorem M4:dIx (.scr ds) (.int i) h=ixK ds i h:=Nv rfl rfl
theorem vI (e:aG h n=some ds):dIx (.ref n) (.int i) h=ixK ds i h:=by
 have z:f9 (.ref n) h=some ds:=e
 delta dIx;rw[z];rfl
theorem FL {ds:List D}{i:Int}{d:D} (e:atI ds i=some d):ixK ds i h=.ok d h:=by simp only[ixK,e]
theorem Ci {j:Nat}{v:β} (h:xs[j]?=some v) (e:i=(j:Int)):atI xs i=some v:=by rw[e];exact D2 h
theorem tB {j:Nat} (e:i=(j:Int)) (e2:ds[j]?=some d):ixK ds i h=.ok d h:=FL (Ci e2 e)
noncomputable def gI (ns:List Int) (i:Nat):Int:=ns.getD i 0
theorem iV (hj):gI ns j=ns[j]:=by
 unfold gI;simp_all
theorem AR (hj:j<ns.length):gI ns j∈ns:=by rw[iV hj];simp
theorem yd {j:Nat} (e:i=(j:Int)) (hj:j<ns.length):ixK (ns.map D.int) i h=.ok (.int (gI ns j)) h:=by
 refine tB e ?_
 rw[NN,Np hj,iV hj];rfl
@[simp] theorem M5:ixK (d::ds) 0 h=.ok d h:=tB rfl rfl
@[simp] theorem M0:ixK (d::d1::ds) 1 h=.ok d1 h:=tB rfl rfl
@[simp] theorem Lq:ze nl (.tup ds) lo hi h=.ok (.tup (cutD ds lo hi)) h:=Nv rfl rfl
@[simp] theorem Ma:ze nl (.frl ds) lo hi h=nl (cutD ds lo hi) h:=Nv rfl rfl
@[simp] theorem L_:ze nl (.scr ds) lo hi h=nl (cutD ds lo hi) h:=Nv rfl rfl
@[simp] theorem Mi:aW nl (.tup a) (.tup b) h=if a.length+b.length<=1000000 then .ok (.tup (a++b)) h else .bad:=Nv rfl rfl
@[simp] theorem LI:aW nl (.frl a) (.frl b) h=if a.length+b.length<=1000000 then nl (a++b) h else .bad:=Nv rfl rfl
@[simp] theorem LZ:eC [.frl ds] h=.ok (.tup ds) h:=Nv rfl rfl
@[simp] theorem LY {ns:List Int}:Cn [.frl (ns.map D.int)] h=.ok (.int ns.sum) h:=by simp only[Cn,f9,fI]
@[simp] theorem LJ:gR (.bl b) h=.ok b h:=Nv rfl rfl
@[simp] theorem MX:dEq (.int i) (.int j) h=.ok (.bl (i == j)) h:=Nv rfl rfl
@[simp] theorem M1:dNe (.int i) (.int j) h=.ok (.bl (!(i == j))) h:=Nv rfl rfl
@[simp] theorem Lo:pD "tuple" (.tup ds) h=.ok (.bl true) h:=Nv rfl rfl
@[simp] theorem Kj {j:Int}:e7 nl [.int j] h=if j.natAbs<=1000000 then nl (b7 0 j.toNat) h else .bad:=by
 by_cases z:j.natAbs<=1000000
 ·rw[if_pos z];simp only[e7,zj,if_pos z]
 ·rw[if_neg z];simp only[e7,zj,if_neg z]
@[simp] theorem i_ {t:Hh}:aG (h++.lst ds::t) h.length=some ds:=by
 unfold aG;simp
@[simp] theorem kx {t:Hh}:(h++o::t).set h.length o'=h++o'::t:=by
 simp
theorem BZ {n:Nat}{ds:List D} (e:aG h n=some ds):isL (.ref n) h=true:=by simp[isL,e]
theorem GJ (e:aG h n=some ds):bH [.ref n] h=.ok (.int ds.length) h:=by
 unfold aG at e
 split at e
 ·rename_i ds' q;cases e;delta bH;simp_all
 grind
theorem sD (e:aG h n=some ds) (e2:ixN ds.length i=some j):jL (.ref n) (.int i) v h=.ok () (h.set n (.lst (ds.set j v))):=by delta jL;simp_all
@[simp] theorem KU:zd [.tup (ns.map D.int)] h=if ns.length<=4000 then .ok (.ref h.length) (h++[.set (unl ns)]) else .bad:=by delta zd;dsimp only;rw[fI]
@[simp] theorem K8 {t:Hh}:isL (.ref h.length) (h++.lst ds::t)=true:=BZ i_
theorem C8 {n j:Nat} (e:i=(j:Int)) (hj:j<n):ixN n i=some j:=by
 subst e
 unfold ixN
 simp_all
end
@[simp] theorem Md:iD jg a env h=(a env h).bind jg:=Nv rfl rfl
@[simp] theorem Lu:jg [.int j] h=if j.natAbs<=1000000 then .ok (.snap (b7 0 j.toNat)) h else .bad:=Nv rfl rfl
@[simp] theorem MM:df a env h=(a env h).bind xn:=Nv rfl rfl
@[simp] theorem KY:iG a env h=(a env h).bind uE:=Nv rfl rfl
@[simp] theorem ML:xn (.tup ds) h=.ok (.snap ds) h:=Nv rfl rfl
@[simp] theorem M_:xn (.frl ds) h=.ok (.snap ds) h:=Nv rfl rfl
@[simp] theorem DG:lP nl [.tup (ns.map D.int)] h=if ns.length<64 then nl ((sortI ns).map D.int) h else .bad:=by simp only[lP,f9,fI]
noncomputable def Kv (tg:D->En->Hh->R En) (body:MS) (env:En):Src->Hh->R Fl:=fun sr h1=>match sr with
 | .snap ds=>fq tg body ds env h1
 | .live n=>k6 (Src.live n).rdr tg body ((aG h1 n).getD []).length 0 env h1
 | .liveE n=>k6 (Src.liveE n).rdr tg body ((aG h1 n).getD []).length 0 env h1
@[simp] theorem LV:Kv tg body env (.snap ds) h=fq tg body ds env h:=Nv rfl rfl
@[simp] theorem MR:fC mi tg body env h=(mi env h).bind (Kv tg body env):=by
 congr 1
noncomputable def JJ (nl:NL) (tt:MT) (te:ME) (ee:D->En):Src->Hh->R D:=fun sr h1=>if sr.fuel h1<=1000000 then
 (match sr with
  | .snap ds=>cM tt te ee ds h1
  | .live n=>iw (Src.live n).rdr tt te ee ((aG h1 n).getD []).length 0 [] h1
  | .liveE n=>iw (Src.liveE n).rdr tt te ee ((aG h1 n).getD []).length 0 [] h1).bind nl else .bad
@[simp] theorem Mm:cN nl mi ix tt te env h=(mi env h).bind (JJ nl tt te (kE ix env)):=Nv rfl rfl
@[simp] theorem KD:JJ nl tt te ee (.snap ds) h=if ds.length<=1000000 then (cM tt te ee ds h).bind nl else .bad:=Nv rfl rfl
@[simp] theorem Ip {lo:Int}{n:Nat}:(b7 lo n).length=n:=by simp[b7]
@[simp] theorem KO (x:Option β):Option.join (some x)=x:=by rfl
@[simp] theorem MV:kE ix env=fun d=>some d::ix.map fun i=>(env[i]?).join:=Nv rfl rfl
@[simp] theorem Jt:tt1 env h=.ok true h:=Nv rfl rfl
noncomputable def Kt (tg:D->En->Hh->R En) (body:MS) (ds:List D):Fl->Hh->R Fl:=fun fl h2=>match fl with
 | .nx e=>fq tg body ds e h2
 | .ct e=>fq tg body ds e h2
 | .bk e=>.ok (.nx e) h2
 | .rt d=>.ok (.rt d) h2
theorem vv:fq tg body (d::ds) env h=(tg d env h).bind fun e1 h1=>(body e1 h1).bind (Kt tg body ds):=rfl
@[simp] theorem E8:Kt tg body ds (.nx e) h=fq tg body ds e h:=Nv rfl rfl
theorem qE (ns):gO (ns.map D.int)=(Nj ns.length).map fun(i:Nat)=>D.tup [.int i,.int (gI ns i)]:=by
 unfold gO
 rw[Nw]
 apply OH
 intro i hi
 have hi:=N7.mp hi
 rw[Pj,NN,Np hi,iV hi];rfl
theorem uF {σ X:Type}{tg:D->En->Hh->R En}{body:MS} (E:σ->En) (G:σ->Hh) (enc:X->D) (f:σ->X->σ) (I:List X->σ->Prop) (st:∀s x r,I (x::r) s->I r (f s x)/\((tg (enc x) (E s) (G s)).bind body=.ok (.nx (E (f s x))) (G (f s x))\/(tg (enc x) (E s) (G s)).bind body=.ok (.ct (E (f s x))) (G (f s x)))) :
  ∀(xs:List X) (s:σ),I xs s->fq tg body (xs.map enc) (E s) (G s)=.ok (.nx (E (xs.foldl f s))) (G (xs.foldl f s))/\I [] (xs.foldl f s)
 | [],s,i=>⟨rfl,i⟩
 | x::xs,s,i=>by
  obtain⟨i1,e⟩:=st s x xs i
  obtain⟨e2,i2⟩:=uF E G enc f I st xs (f s x) i1
  refine⟨?_,i2⟩
  rw[ND,fq]
  rw[<- cB]
  rcases e with e | e<;>rw[e]<;>exact e2
theorem comp_map {X:Type}{tt:MT}{te:ME}{ee:D->En} (enc:X->D) (p:X->Bool) (g:X->D):∀(xs:List X),(∀x∈xs,tt (ee (enc x)) h=.ok (p x) h/\(p x=true->te (ee (enc x)) h=.ok (g x) h)) →
  cM tt te ee (xs.map enc) h=.ok ((xs.filter p).map g) h
 | [],_=>rfl
 | x::xs,st=>by
  obtain⟨e1,e2⟩:=st x Nt
  have ih:=comp_map enc p g xs fun y hy=>st y (ox _ hy)
  rw[ND,cM,e1,f_]
  cases hp:p x with
  | false=>simp_all
  | true=>simp_all
theorem oQ {X:Type} (enc) (g) (xs:List X) (st:∀x∈xs,te (ee (enc x)) h=.ok (g x) h):cM tt1 te ee (xs.map enc) h=.ok (xs.map g) h:=by
 have:=comp_map (tt:=tt1) enc (fun _=>true) g xs fun x hx=>⟨rfl,fun _=>st x hx⟩
 rw[Ql.mpr fun _ _=>rfl] at this
 lia
theorem lh (n):b7 0 n=(Nj n).map fun(i:Nat)=>D.int i:=by
 apply OH
 simp
theorem vV (p) (g) (st:∀i,i<n->tt (ee (.int (i:Nat))) h=.ok (p i) h/\(p i=true->te (ee (.int (i:Nat))) h=.ok (g i) h)) :
  cM tt te ee (b7 0 n) h=.ok (((Nj n).filter p).map g) h:=by
 rw[lh,comp_map (fun(i:Nat)=>D.int i) p g (Nj n) fun i hi=>st i (N7.mp hi)]
theorem qu (g) (st:∀i,i<n->te (ee (.int (i:Nat))) h=.ok (g i) h) :
  cM tt1 te ee (b7 0 n) h=.ok ((Nj n).map g) h:=by
 rw[lh,oQ (fun(i:Nat)=>D.int i) g (Nj n) fun i hi=>st i (N7.mp hi)]
theorem xS {σ:Type} (enc) (n) (E:σ->En) (G:σ->Hh) (f) (I:Nat->σ->Prop) (s) (i0:I 0 s)
  (st:∀i s,i<n->I i s->I (i+1) (f s i)/\((tg (enc i) (E s) (G s)).bind body=.ok (.nx (E (f s i))) (G (f s i))\/(tg (enc i) (E s) (G s)).bind body=.ok (.ct (E (f s i))) (G (f s i)))) :
  fq tg body ((Nj n).map enc) (E s) (G s)=.ok (.nx (E ((Nj n).foldl f s))) (G ((Nj n).foldl f s))/\I n ((Nj n).foldl f s):=by
 have key:∀(k:Nat) (xs:List Nat) (s:σ),(∀j x,xs[j]?=some x->x=k+j/\x<n)->I k s->fq tg body (xs.map enc) (E s) (G s)=.ok (.nx (E (xs.foldl f s))) (G (xs.foldl f s))/\I (k+xs.length) (xs.foldl f s):=by
  intro k xs
  induction xs generalizing k with
  | nil=>intro s _ i;exact⟨rfl,i⟩
  | cons x xs ih=>
   intro s hx i
   obtain⟨h1,h2⟩:=hx 0 x rfl
   subst h1
   obtain⟨i1,e⟩:=st x s h2 i
   obtain⟨e2,i2⟩:=ih (x+1) (f s x) (fun j y hj=>by have:=hx (j+1) y hj;lia) i1
   refine⟨?_,by rw[N8];grind⟩
   rw[ND,fq,<- cB]
   rcases e with e | e<;>rw[e]<;>exact e2
 have hr:∀j x,(Nj n)[j]?=some x->x=0+j/\x<n:=fun j x hj=>by
  grind
 have:=key 0 (Nj n) s hr i0
 simp_all
theorem qY {σ X:Type}{te:ME}{ee:D->En} (G:σ->Hh) (enc:X->D) (f:σ->X->σ) (g:σ->X->D) (I:List X->σ->Prop) (st:∀s x r,I (x::r) s->I r (f s x)/\te (ee (enc x)) (G s)=.ok (g s x) (G (f s x))) :
  ∀(xs:List X) (s:σ),I xs s->∃ys,cM tt1 te ee (xs.map enc) (G s)=.ok ys (G (xs.foldl f s))/\I [] (xs.foldl f s)/\ys=(xs.foldl (fun(a:σ × List D) x=>(f a.1 x,a.2++[g a.1 x])) (s,[])).2
 | [],s,i=>⟨[],rfl,i,rfl⟩
 | x::xs,s,i=>by
  obtain⟨i1,e⟩:=st s x xs i
  obtain⟨ys,e2,i2,e3⟩:=qY G enc f g I st xs (f s x) i1
  refine⟨g s x::ys,?_,i2,?_⟩
  ·rw[ND,cM,Jt,f_,e,f_,e2];rfl
  ·rw[e3]
   have key:∀(xs:List X) (s:σ) (a b:List D),(xs.foldl (fun(a:σ × List D) x=>(f a.1 x,a.2++[g a.1 x])) (s,a++b)).2=a++(xs.foldl (fun(a:σ × List D) x=>(f a.1 x,a.2++[g a.1 x])) (s,b)).2:=by
    intro xs
    induction xs with
    | nil=>intro s a b;rfl
    | cons x xs ih=>intro s a b;rw[Oz,Ow];exact ih _ _ _
   have:=key xs (f s x) [g s x] []
   simpa using this.symm
noncomputable def Wf (h:Hh):Prop:=h.all (wc h.length)=true
mutual
theorem zR {j k:Nat} (h:j<=k):∀(d:D),iB j d=true->iB k d=true
 | .non,_=>rfl | .bl _,_=>rfl | .int _,_=>rfl | .str _,_=>rfl | .fn _,_=>rfl | .edic,_=>rfl | .exc _ _,_=>rfl
 | .clo _ ds,e=>by simp only[iB] at e ⊢;exact cS h ds e
 | .ref n,e=>by simp only[iB,decide_eq_true_eq] at e ⊢;lia
 | .tup ds,e=>by simp only[iB] at e ⊢;exact cS h ds e
 | .frl ds,e=>by simp only[iB] at e ⊢;exact cS h ds e
 | .scr ds,e=>by simp only[iB] at e ⊢;exact cS h ds e
theorem cS {j k:Nat} (h:j<=k):∀(ds:List D),bT j ds=true->bT k ds=true
 | [],_=>rfl
 | d::ds,e=>by
  simp only[bT,NQ] at e ⊢
  exact⟨zR h d e.1,cS h ds e.2⟩
end
theorem zV (h:j<=k) (o) (e:wc j o=true):wc k o=true:=by
 cases o with
 | lst ds=>exact cS h ds e
 | set n=>rfl
 | dic kvs=>exact cS h _ e
 | dit kvs=>exact cS h _ e
theorem qH {k:Nat}:∀{ds:List D},(∀d∈ds,iB k d=true)->bT k ds=true
 | [],_=>rfl
 | d::ds,h=>by simp only[bT,NQ];exact⟨h d Nt,qH fun e he=>h e (ox _ he)⟩
@[simp] theorem qQ {X:Type}{f:X->D}{xs:List X} (h:∀x,iB k (f x)=true):bT k (xs.map f)=true:=qH fun d hd=>by
 grind
@[simp] theorem Fy {ns:List Int}:bT k (ns.map D.int)=true:=qQ fun _=>rfl
theorem Wf.nil:Wf []:=rfl
theorem Wf.app (w:Wf h) (l:wc (h.length+1) o=true):Wf (h++[o]):=by
 unfold Wf at w ⊢
 rw[List.all_append,NY]
 simp only[Qu,List.all_nil,Bool.and_true,NQ]
 refine⟨?_,l⟩
 rw[NU] at w ⊢
 exact fun x hx=>zV (Qj _) x (w x hx)
noncomputable def deep:Nat->D->Bool
 | 0,_=>false
 | f+1,d=>match d with
  | .ref _=>false
  | .scr _=>false
  | .tup ds=>ds.all (deep f)
  | .frl ds=>ds.all (deep f)
  | .clo _ ds=>bT 0 ds
  | _=>true
theorem tH {f:D->Option D}:∀{ds:List D},(∀d∈ds,f d=some d)->k9 f ds=some ds
 | [],_=>rfl
 | d::ds,h=>by simp only[k9,h d Nt,tH fun e he=>h e (ox _ he)]
theorem lE {k:Nat}{h:Hh}:∀(f:Nat) (d:D),deep f d=true->ji k h f d=some d
 | 0,_,e=>by cases e
 | f+1,d,e=>by
  unfold deep at e
  cases d with
  | ref n=>cases e
  | scr n=>cases e
  | tup ds=>simp only[NU] at e;show SO D.tup (k9 (ji k h f) ds)=_;rw[tH fun d hd=>lE f d (e d hd)];rfl
  | frl ds=>simp only[NU] at e;show SO D.frl (k9 (ji k h f) ds)=_;rw[tH fun d hd=>lE f d (e d hd)];rfl
  | clo g ds=>show(if bT 0 ds=true then some (D.clo g ds) else none)=_;simp_all
  | _=>rfl
theorem fT (w:Wf h) (e:deep 8 d=true):di h d (h++t)=.ok d h:=by
 unfold di
 rw[List.take_left' rfl,if_pos (show h.all (wc h.length)=true from w),lE 8 d e]
@[simp] theorem Jz:deep (f+1) (.int i)=true:=rfl
@[simp] theorem KH:deep (f+1) (.bl i)=true:=rfl
@[simp] theorem Ki:deep (f+1) (.str i)=true:=rfl
@[simp] theorem Jv:deep (f+1) .non=true:=rfl
@[simp] theorem Io:deep (f+1) .edic=true:=rfl
@[simp] theorem Kg:deep (f+1) (.tup ds)=ds.all (deep f):=rfl
@[simp] theorem JU:deep (f+1) (.frl ds)=ds.all (deep f):=rfl
end
noncomputable def Ok (r:R β) (Q:β->Hh->Prop):Prop:=∃b h,r=.ok b h/\Q b h
section
variable {β γ:Type}{Q:β->Hh->Prop}{h h1 h2:Hh}
theorem Ok.mono {r:R β}{Q':β->Hh->Prop} (o:Ok r Q) (q:∀b h,Q b h->Q' b h):Ok r Q':=let ⟨b,h,e,z⟩:=o;⟨b,h,e,q b h z⟩
end
theorem se {X:Type}{tg:D->En->Hh->R En}{body:MS}{QS:Fl->Hh->Prop} (enc:X->D) (I:En->Hh->Prop) :
  ∀(xs:List X) (env:En) (h:Hh),I env h->(∀x e h,x∈xs->I e h->Ok ((tg (enc x) e h).bind body) fun fl h2=>match fl with
   | .nx e=>I e h2
   | .ct e=>I e h2
   | .bk e=>QS (.nx e) h2
   | .rt d=>QS (.rt d) h2)->(∀e h,I e h->QS (.nx e) h)->Ok (fq tg body (xs.map enc) env h) QS
 | [],env,h,i,_,q=>⟨_,_,rfl,q _ _ i⟩
 | x::xs,env,h,i,st,q=>by
  obtain⟨fl,h2,e,z⟩:=st x env h Nt i
  rw[ND,fq,<- cB,e]
  cases fl with
  | nx e'=>exact se enc I xs e' h2 z (fun y e h hy=>st y e h (ox _ hy)) q
  | ct e'=>exact se enc I xs e' h2 z (fun y e h hy=>st y e h (ox _ hy)) q
  | bk e=>exact⟨_,_,rfl,z⟩
  | rt d=>exact⟨_,_,rfl,z⟩
end L2.FE
namespace L2.FE
open PySem PySem.Spec PyProof.Rows
noncomputable def ER (h:Hh) (n:Nat):Option (List (Key × D)):=match h[n]? with
 | some (.dic kvs)=>some kvs
 | _=>none
noncomputable abbrev PD (K:ab) (g:GG) (α:List Addr) (H:Hp):List (Key × D)->List (Key × V)->Prop:=Paired (fun(a:Key × D) (b:Key × V)=>a.1=b.1/\aL K g α H a.2 b.2)
section
variable {K:ab}{g:GG}{α:List Addr}{H:Hp}{h:Hh}
theorem aV.dic (r:aV K g α H h) (e:ER h n=some kvs) (hp:α[n]?=some p):∃kws,H p=some (.dK kws)/\PD K g α H kvs kws:=by
 unfold ER at e
 cases eo:h[n]? with
 | none=>simp_all
 | some o=>
  rw[eo] at e
  cases o with
  | dic k=>cases e;exact r.here n p _ hp eo
  | _=>cases e
theorem PD.ext (e:Ext K α H α' H') (r:PD K g α H kvs kws):PD K g α' H' kvs kws:=Paired.Iz e.toEx0 r
theorem aO.dic (w:aO K g α H Q (.ref h.length) (h++[.dic kvs])) (r:aV K g α H h) (rs:PD K g α H kvs kws) (hp:H p=none):Q (.ref p) (upd H p (.dK kws)):=by
 have x:=Ext.push (K:=K) (α:=α) (o:=.dK kws) hp
 exact w _ _ _ x (r.push hp ⟨_,bp,rs.ext x⟩) (.ref (by rw[<- r.len];simp))
end
noncomputable def G8:D->Option Key
 | .int i=>some (.inl i)
 | .str x=>some (.inr x)
 | _=>none
theorem Hi {K:ab}{g:GG} (r:aL K g α H d v) (e:G8 d=some k):v=kV k:=by
 cases r<;>cases e<;>rfl
section
variable {X:Cx}{g:GG}{ε:EE}{o i e f:Expr}{mo mi me mf:ME}{pos:Pos}
theorem un1 {A:N1} (h:A.units+64<cLine):A.units+1<cLine:=by lia
theorem ug:∀(ks:List V) (us:List Ng),us.length=ks.length->(∀(j:Nat) (u:Ng),us[j]?=some u->∃v,ks[j]?=some v/\RelV v u)->Vals ks us
 | [],[],_,_=>.nil
 | [],_::_,e,_=>by simp at e
 | _::_,[],e,_=>by simp at e
 | k::ks,u::us,e,h=>by
  obtain⟨v,e1,r⟩:=h 0 u rfl
  cases e1
  exact .cons r (ug ks us (by simp_all) fun j w hj=>h (j+1) w hj)
end
end L2.FE
namespace L2
open PySem PySem.Spec PyProof.Rows
structure Gn (h h':Heap):Prop where
 up:h.UpToSlots h'
 there:∀b o,h.get? b=some o->∃o',h'.get? b=some o'
theorem Gn.trans {h h1 h2:Heap} (a:Gn h h1) (b:Gn h1 h2):Gn h h2:=⟨a.up.trans b.up,fun c o q=>let ⟨_,q'⟩:=a.there c o q;b.there c _ q'⟩
structure Fly (B:Heap) (l) (e) (C) (dc) (fl) (h):Prop where
 stays:B.StaysIn h
 new:B.get? e=none
 fr:h.FunFrames B l
 obj:∃oe ws T oT ts,h.get? e=some oe/\oe.cls=C/\oe.dict=dc/\oe.data=.fields ws/\ws[1]?=some (.ref T)/\B.get? T=none/\T≠e/\h.get? T=some oT/\oT.data=.fields ts/\ts[3]?=some fl
theorem Fly.there (x:Fly B l e C dc fl h):∃oe ws,h.get? e=some oe/\oe.cls=C/\oe.dict=dc/\oe.data=.fields ws:=by
 obtain⟨oe,ws,T,oT,ts,a,b,c,d,_⟩:=x.obj
 simp_all
noncomputable def Arr (B:Heap) (l:List Env) (e:Addr) (C:Ng) (dc:Option Addr) (h:Heap):Prop:=
 (B.StaysIn h/\B.get? e=none/\h.FunFrames B l/\∃oe ws,h.get? e=some oe/\oe.cls=C/\oe.dict=dc/\oe.data=.fields ws/\ws[1]?=some .none)\/Fly B l e C dc .none h
theorem Arr.stays (x:Arr B l e C dc h):B.StaysIn h:=x.elim (·.1) (·.stays)
theorem Arr.new (x:Arr B l e C dc h):B.get? e=none:=x.elim (·.2.1) (·.new)
theorem Arr.fr (x:Arr B l e C dc h):h.FunFrames B l:=x.elim (·.2.2.1) (·.fr)
end L2
namespace L2.FE
open PySem PySem.Spec PyProof.Rows
noncomputable def noR:R β->R β
 | .ok b h=>.ok b h
 | _=>.bad
@[simp] theorem Lk (b:β) (h):noR (.ok b h)=.ok b h:=rfl
noncomputable def up (m:En->Hh->R β):En->Hh->R β:=fun env h=>noR (m env h)
end L2.FE
namespace PySem.SeqAt
open PySem PySem.Spec PyProof.Rows PySem.MeetsSeq PySem.MeetsSeq2 PySem.MeetsSeq3
open PySem.AutoSeq1 (wpAny_loadPart')
theorem xc {items:Array Ng}{e:Ng->Bool} (hj)
  (hit:e items[j]=true) (hno:∀m hm , m<j->e items[m]=false) (he:∀y,y∈items->EqAt A s y x (e y)) (q:Q (some (.done (.ret (.int j s.toks))),()) { s with toks:=s.toks+1 }) :
  ∀k i:Nat,i+k=items.size->i<=j->wpAny (model prog w) A (forIn (SJ i k) ((none:Option Fin),()) fun(i:Nat) (_:Option Fin × Unit)=>
      match items[i]? with
      | some y=>do
       let b ← eqBool y x
       if b=true then do
         let r ← retInt (i:Int)
         pure (ForInStep.done (some r,()))
        else pure (OQ ((none:Option Fin),()))
      | _=>pure (OQ ((none:Option Fin),()))) Q E s:=by
 intro k
 induction k with
 | zero=>lia
 | succ k ih=>
  intro i h1 h2
  have hlt:i<items.size:=by lia
  rw[List.range'_succ,Rk,Pn hlt]
  refine gV (gV (he _ (NO hlt) prog w _ _ ?_))
  by_cases hij:i=j
  ·subst hij
   wp_walk
   exact q
  ·rw[hno i hlt (by lia)]
   exact k5 (ih (i+1) (by lia) (by lia))
theorem pQ (l) (items) (n) (dd) (sl) (x) (e:Ng->Bool) (j:Nat) (hj)
  (hit:e items[j]=true) (hno:∀m hm , m<j->e items[m]=false) :
  Meets (Oo.«tuple.index» ⟨[.ref l,x],[]⟩)
   (fun A R s=>s.heap.get? l=some { cls:=.type "tuple", dict:=dd,data:=.seq items n,slots:=sl }/\(∀y,y∈items->EqAt A.in1 s y x (e y))/\R (.ok (.ret (.int j s.toks))) { s with toks:=s.toks+1 }):=by
 intro prog w A R s h
 obtain⟨hp,g,d,tk,os⟩:=s;obtain⟨hl,he,h⟩:=h
 unfold Oo.«tuple.index»
 simp only[Std.Legacy.Range.forIn_eq_forIn_range']
 wp_walk using Rm hl
 have hsz:([:min items.size items.size]:Std.Legacy.Range).size=items.size:=by simp
 refine xc hj hit hno he ?_ _ 0 (by lia) (Ox _)
 refine k5 ?_
 exact h
end PySem.SeqAt
namespace L2.FE
open PySem PySem.Spec PyProof.Rows
section
variable {X:Cx}{g:GG}{ε:EE}{K:ab}
noncomputable def eqI (i:Int):Ng->Bool
 | .int c _=>c == i
 | _=>false
noncomputable def yO (K:ab):V->List V->Hp->VK->Prop:=fun x vs H Q=>∃(l:Addr) (ns:List Int) (i:Int) (j:Nat),x=.ref l/\vs=[.int i]/\SqT K H l (ns.map V.int)/\ns.findIdx? (· == i)=some j/\Q (.int (j:Nat)) H
theorem kG:∀{ns:List Int}{us:List Ng}{m:Nat} (h:m<us.length),Vals (ns.map V.int) us->∃(h':m<ns.length) (t:Tok),us[m]=Pr ns[m] t
 | [],_,m,h,.nil=>absurd h (Qw _)
 | n::ns,_,0,h,.cons r t=>by obtain⟨t,e⟩:=r;simp_all
 | n::ns,_::us,m+1,h,.cons r t=>by
  obtain⟨h',t',e⟩:=kG (by simpa using h) t
  simp_all
theorem ja:MtM X "tuple.index" (yO X.K):=by
 intro pins s σ H x vs v us Q I rx rv h
 obtain⟨l,ns,i,j,rfl,rfl,hq,hj,q⟩:=h
 cases rx
 obtain⟨u,rfl,ru⟩:=rv.one
 obtain⟨t0,rfl⟩:=ru
 obtain⟨its,rs,pt,hz⟩:=I.tuple hq
 obtain⟨⟨c,d,da,sl⟩,ho,hc,n,hd⟩:=pt
 subst hc hd
 obtain⟨hlt,hit,hno⟩:=List.findIdx?_eq_some_iff_getElem.mp hj
 have hlen:its.length=ns.length:=by have:=rs.length;simp_all
 refine RG F.slot_tuple_index ⟨_,ho,rfl⟩ F.entry_tuple_index (F.args_tuple_index_2 _ _) (SeqAt.pQ l _ n d sl (.int i t0) (eqI i) j (by simp_all) ?_ ?_) ⟨ho,fun y hy=>?_,?_⟩
 ·obtain⟨h',t',e⟩:=kG (m:=j) (by omega) rs
  show eqI i its[j]=true
  rw[e];exact hit
 ·intro m hm h2
  obtain⟨h',t',e⟩:=kG (by omega) rs
  show eqI i its[m]=false
  rw[e]
  have:=hno m h2
  simpa [eqI] using this
 ·obtain⟨m,hm,e⟩:=OW (by simp_all:y∈its)
  obtain⟨h',t',e'⟩:=kG hm rs
  rw[<- e,e']
  exact Om.int_int _ _ _ _
 ·exact⟨.int (j:Nat),H,I.kept fun _ _ z=>z,⟨s.toks,rfl⟩,q⟩
noncomputable def dq:D->List D->Hh->R D:=fun o ds h=>match o,ds with
 | .tup xs,[.int i]=>match intsOf xs with
  | some ns=>match ns.findIdx? (· == i) with
   | some j=>.ok (.int (j:Nat)) h
   | none=>.bad
  | none=>.bad
 | _,_=>.bad
theorem i9:Aa K g ε dq (yO K):=by
 intro α H h o a y x Q r ro ra w
 unfold dq at w
 cases ro with
 | @tup ds p vs hq rs=>
  cases ra with
  | nil=>exact w.elim
  | cons rd rr=>
   cases rr with
   | cons _ _=>cases rd<;>exact w.elim
   | nil=>
    cases rd with
    | int i=>
     simp only at w
     cases e2:intsOf ds with
     | none=>rw[e2] at w;exact w.elim
     | some ns=>
      rw[e2] at w
      simp only at w
      cases e5:ns.findIdx? (· == i) with
      | none=>rw[e5] at w;exact w.elim
      | some j=>
       rw[e5] at w
       have e3:=dI e2
       subst e3
       have e4:=rs.vM
       subst e4
       exact⟨p,ns,i,j,rfl,rfl,SqT.of hq,e5,aO.now w r (.int _)⟩
    | _=>exact w.elim
 | _=>exact w.elim
noncomputable def isT:D->Bool
 | .tup _=>true
 | _=>false
noncomputable def gH (f:D->List D->Hh->R D) (o:ME) (a:MA):ME:=fun env h=>(o env h).bind fun x h1=>if isT x=true then (a env h1).bind fun xs h2=>f x xs h2 else .bad
theorem rq {o e:Expr}{es:List Expr}{mo:ME}{mr:MA}{name:Str}{apos cpos:Pos}{id:String}{r:V->List V->Hp->VK->Prop}{f:D->List D->Hh->R D} (slot:Slot "tuple" name id) (hty:typeOf (.builtin id)=pure (.type "method_descriptor")) (hm:MtM X id r) (im:Aa X.K g ε f r) (ho:PE X o (tM X.K g ε mo)) (ha:PA X (e::es) (tMA X.K g ε mr))
  (hbase:attributeBase o name X.env (eval o X.env)=eval o X.env:=by rfl)
  (hfew:((backTo cpos (starEach (e::es) X.env)).all (fun x=>!x.1)&&(backToKw cpos (keywordEach [] X.env)).all (fun x=>x.1.isSome)
   && decide ((e::es).length+([]:List Sf).length+(if ([]:List Sf).isEmpty then 0 else 1)<30))=true:=by rfl)
  (hline:(apos.endLine == cpos.line)=true:=by rfl) (hs:starEach (e::es) X.env=(false,eval e X.env)::starEach es X.env:=by rfl) (hplain:(backTo cpos (starEach es X.env)).any (·.1)=false:=by rfl) :
  PE X (.Call (.Attribute o name apos) (e::es) [] cpos) (tM X.K g ε (gH f mo mr)):=
 PE.imp (E6 PySem.F.plainAttrs_tuple slot hty hm ho ha hbase hfew hline hs hplain) fun σ H Q ⟨α,env,h,s,w⟩=>tM.use s w.bind fun d1 h1 v1 H1 α1 e1 s1 r1 w1=>by
  obtain⟨hl,w1⟩:=WQ.dO w1
  refine⟨?_,tMA.use s1 (w1.ext e1).bind fun d2 h2 v2 H2 α2 e2 s2 r2 w2=>?_⟩
  ·cases r1 with
   | @tup ds p vs hq rs=>exact .inr (.inr (.inr (.inr ⟨rfl,vs,hq⟩)))
   | _=>cases hl
  exact im α2 H2 h2 d1 d2 v1 v2 Q s2.heap (r1.ext e2) r2 ((w2.ext e2).mono fun _ _ _ p=>aO.ext (e1.trans e2) p)
end
theorem us0 {P:List Ng->Prop} (hl:us.length=0) (h:P []):P us:=by simp_all
theorem us1 {P:List Ng->Prop} (hl:us.length=1) (h:∀a,P [a]):P us:=by cases us with | nil=>cases hl | cons a us=>simp_all
theorem us2 {P:List Ng->Prop} (hl:us.length=2) (h:∀a b,P [a,b]):P us:=by cases us with | nil=>cases hl | cons a us=>exact us1 (P:=fun us=>P (a::us)) (Nat.succ.inj hl) (h a)
theorem us3 {P:List Ng->Prop} (hl:us.length=3) (h:∀a b c,P [a,b,c]):P us:=by cases us with | nil=>cases hl | cons a us=>exact us2 (P:=fun us=>P (a::us)) (Nat.succ.inj hl) (h a)
theorem Af {ps:List Str} (hl:us.length=1) (h:∀a:Ng,bindArgs fd ⟨[a],[]⟩=pure (ps.zip [a])):bindArgs fd ⟨us,[]⟩=pure (ps.zip us):=us1 (P:=fun us=>bindArgs fd ⟨us,[]⟩=pure (ps.zip us)) hl h
theorem yZ {ps:List Str} (hl:us.length=2) (h:∀a b:Ng,bindArgs fd ⟨[a,b],[]⟩=pure (ps.zip [a,b])):bindArgs fd ⟨us,[]⟩=pure (ps.zip us):=us2 (P:=fun us=>bindArgs fd ⟨us,[]⟩=pure (ps.zip us)) hl h
theorem DT {ps:List Str} (hl:us.length=3) (h:∀a b c:Ng,bindArgs fd ⟨[a,b,c],[]⟩=pure (ps.zip [a,b,c])):bindArgs fd ⟨us,[]⟩=pure (ps.zip us):=us3 (P:=fun us=>bindArgs fd ⟨us,[]⟩=pure (ps.zip us)) hl h
section
variable {X:Cx}{g:GG}{ε:EE}{K:ab}
noncomputable def yI:V->List V->Hp->VK->Prop:=fun x vs H Q=>∃(l:Addr) (xs:List V) (i:Int) (k:Nat) (y:V),x=.ref l/\vs=[.int i,y]/\H l=some (.lst xs)/\i=(k:Int)/\k<=xs.length/\xs.length<1000000/\Q .non (upd H l (.lst (xs.take k++y::xs.drop k)))
theorem zq:MtM X "list.insert" yI:=by
 intro pins s σ H x vs v us Q I rx rv h
 obtain⟨l,xs,i,k,y,rfl,rfl,hH,hi,hk,hz,q⟩:=h
 cases rx
 obtain⟨u1,u2,rfl,r1,r2⟩:=rv.two
 obtain⟨t,rfl⟩:=r1
 obtain⟨z,its,n,r,hl,e⟩:=I.HY hH
 have fit:Oo.List.listFitsIndex i=true:=R7 (by lia) (by lia)
 refine RG F.slot_list_insert ⟨_,e,rfl⟩ F.entry_list_insert (F.args_list_insert_3 _ _ _) (AutoSeq1.list_insert_list_int_val_1 l its.toArray n i t u2 (by simp[fit]) (by rw[NB];lia)) ⟨e,?_⟩
 refine⟨.non,_,I.F1 hH e ?_ ((r.take k).append (.cons r2 (r.drop k))) ?_,rfl,q⟩
 ·have hk':min k its.length=k:=RZ (by lia)
  have n0:¬ i<0:=by lia
  have nk:i.toNat=k:=by lia
  simp only[if_neg n0,nk,NB,hk']
  simp
  exact N2 (by simp)
 ·have e1:(xs.take k++y::xs.drop k).length=xs.length+1:=by simp;lia
  rw[e1]
  exact NT hz (by rw[Oi];decide)
noncomputable def gZ:D->List D->Hh->R D:=fun o ds h=>match o,ds with
 | .ref n,[.int i,d]=>match aG h n with
  | some xs=>if 0<=i/\i.toNat<=xs.length/\xs.length<1000000 then .ok .non (h.set n (.lst (xs.take i.toNat++d::xs.drop i.toNat))) else .bad
  | none=>.bad
 | _,_=>.bad
theorem zM:Aa K g ε gZ yI:=by
 intro α H h o a y x Q r ro ra w
 unfold gZ at w
 split at w
 ·split at w
  ·rename_i n i d _ xs e
   obtain⟨⟨h0,hk,hl⟩,w⟩:=WQ.dO w
   cases ro with
   | @ref _ p hp=>
    cases ra with
    | cons rd rr=>
     cases rd
     cases rr with
     | @cons _ v _ _ rv rr=>
      cases rr
      obtain⟨vs,hv,rs⟩:=r.lst e hp
      refine⟨p,vs,i,i.toNat,v,rfl,rfl,hv,by lia,by rw[<- rs.length];exact hk,by rw[<- rs.length];exact hl,?_⟩
      have x:=Ext.write (o:=.lst (vs.take i.toNat++v::vs.drop i.toNat)) r hp
      exact(show aO K g α H Q _ _ from w) _ _ α x (r.write hp ⟨_,bp,((rs.take i.toNat).append (.cons rv (rs.drop i.toNat))).ext x⟩) .non
  ·exact w.elim
 ·exact w.elim
theorem Bm (e:aG h n=some xs) (h0:0<=i) (hk:i.toNat<=xs.length) (hl:xs.length<1000000):gZ (.ref n) [.int i,d] h=.ok .non (h.set n (.lst (xs.take i.toNat++d::xs.drop i.toNat))):=by
 delta gZ;simp_all
end
end L2.FE
namespace L2
open PySem PySem.Spec PyProof.Rows PySem.W
theorem Jj (e:h'.get? a=some o):bK P w H h' a (FE.AtO a o):=⟨e,e,⟨o,e⟩,fun h1 h2 q k=>k o q⟩
end L2
namespace L2.FE
open PySem PySem.Spec PyProof.Rows
section
variable {P:NC}{w:N4}{K:ab}{mg:Str->Option Ng}{base:Heap}{g:GG}{k n:Nat}{f:Addr}{fd:Qr}{ps:List Str}
theorem yh (e:n=ps.length):dJ P w K mg base CX0 k f fd ps (spM K g n fun _ _=>.bad):=⟨fun vs H Q E h=>h.1.trans e,fun A outer s H args us vs Q E _ _ _ _ ⟨_,α,ds,h,_,_,w⟩=>w.elim⟩
end
end L2.FE
namespace L2.Srt
open PySem PySem.W PyProof.Rows
inductive Ev (lt:Nat->Nat->Bool) (n):KasT α->α->Prop
 | ret (a):Ev lt n (.ret a) a
 | ask {a:α}:i<n->j<n->Ev lt n (k (lt i j)) a->Ev lt n (.ask i j k) a
theorem Ev.wp {s:Nk} (h:Ev lt n t a) (hc:∀i j,i<n->j<n->∀C:Bool->Nk->Prop,C (lt i j) s->cmp i j C s) (q:Q a s):t.kasWp cmp Q s:=by
 induction h with
 | ret a=>exact q
 | ask hi hj _ ih=>exact hc _ _ hi hj _ (ih q)
section
variable {n:Nat}{key:Nat->Int}
structure Pm (n) (p:Array Nat):Prop where
 size:p.size=n
 perm:p.Perm (Nj n).toArray
theorem Pm.lt (h:Pm n p) (hi:i<n):p.getD i 0<n:=by
 have hi':i<p.size:=by rw[h.size];exact hi
 have e:p.getD i 0=p[i]:=by simp[hi']
 rw[e]
 have:=h.perm.mem_iff.mp (NO hi')
 simp_all
variable (inj:∀i j,i<n->j<n->key i=key j->i=j)
include inj
omit inj in
omit inj in
omit inj in
omit inj in
omit inj in
omit inj in
end
end L2.Srt
namespace L2.Srt
open PySem PySem.W PyProof.Rows PySem.Calls
section
variable {prog:NC}{w:N4}{A:N1}{E:Ng->Nk->Prop}{s:Nk}{a:Addr}{vs:List Ng}{κ:Qy}
noncomputable def cL (h:Heap) (a:Addr) (vs:List Ng):Heap:=((h.update a (OU fun _=>(#[]:Array Ng))).push (seqObj "tuple" vs.toArray 0)).push (seqObj "list" #[] 0)
end
section
variable {prog:NC}{w:N4}{A:N1}{E:Ng->Nk->Prop}{s:Nk}{vs:List Ng}
noncomputable def cu (h:Heap) (vs:List Ng):Heap:=((h.push (seqObj "list" #[] 0)).update h.objs.size (OU (·++vs.toArray))).push (seqObj "list" vs.toArray 0)
theorem Em (q:h.get? b=some o):(cu h vs).get? b=some o:=by
 have hsz:((h.push (seqObj "list" #[] 0)).update h.objs.size (OU (·++vs.toArray))).objs.size=h.objs.size+1:=by simp
 have hlt:=Nh q
 unfold cu
 rw[Heap.get?_push_ne _ _ _ (by grind),Heap.get?_update_ne _ _ _ _ (NA hlt),Heap.get?_push_ne _ _ _ (NA hlt)]
 exact q
theorem CC (hn:b≠a) (q:h.get? b=some o):(cL h a vs).get? b=some o:=by
 exact k3 _ (k3 _ (by rw[Heap.get?_update_ne _ _ _ _ hn];exact q))
inductive Prs (h:Heap):List Ng->List (Int × Int)->Prop
 | nil:Prs h [] []
 | cons {t u:Tok} {x y:Int} {vs:List Ng} {ps:List (Int × Int)}:h.get? a=some o->o.cls=.type "tuple" -> o.data=.seq #[.int x t,.int y u] k->Prs h vs ps->Prs h (.ref a::vs) ((x,y)::ps)
theorem Prs.len (r:Prs h vs ps):vs.length=ps.length:=by
 induction r with
 | nil=>rfl
 | cons _ _ _ _ ih=>simp[ih]
end
end L2.Srt
namespace L2
open PySem PySem.Spec PyProof.Rows L2.Srt
inductive PrV (K) (H):List V->List (Int × Int)->Prop
 | nil:PrV K H [] []
 | cons:SqT K H a [.int x,.int y]->PrV K H xs ps->PrV K H (.ref a::xs) ((x,y)::ps)
section
variable {X:Cx}
theorem PrV.len {K:ab} (r:PrV K H xs ps):xs.length=ps.length:=by
 induction r with
 | nil=>rfl
 | cons _ _ ih=>simp[ih]
theorem qG {xs:List V}{us:List Ng} (r:Vals xs us):∀(l:List Nat),(∀i∈l,i<xs.length)->Vals (l.map fun i=>xs.getD i .non) (l.map fun i=>us.getD i OI)
 | [],_=>.nil
 | i::l,h=>by
  refine .cons ?_ (qG r l fun j hj=>h j (ox _ hj))
  have hi:i<xs.length:=h i Nt
  have hu:i<us.length:=by rw[<- r.length];exact hi
  obtain⟨y,e3,ry⟩:=r.get' (Np hu)
  simp_all
end
end L2
namespace L2.FE
open PySem PySem.Spec PyProof.Rows L2.Srt
section
variable {X:Cx}{g:GG}{ε:EE}{K:ab}
theorem xK {α:List Addr}{H:Hp}:∀{ds:List D}{xs:List V},au K g α H ds xs->∀(i:Nat),i<ds.length->aL K g α H (ds.getD i .non) (xs.getD i .non)
 | _,_,.nil,i,h=>by simp at h
 | _,_,.cons a b,0,_=>a
 | _,_,.cons a b,i+1,h=>by simpa using xK b i (by simp_all)
theorem uy {α:List Addr}{H:Hp}{ds:List D}{xs:List V} (r:au K g α H ds xs):∀(l:List Nat),(∀i∈l,i<ds.length)->au K g α H (l.map fun i=>ds.getD i .non) (l.map fun i=>xs.getD i .non)
 | [],_=>.nil
 | i::l,h=>.cons (xK r i (h i Nt)) (uy r l fun j hj=>h j (ox _ hj))
end
end L2.FE
namespace L2.Srt
open PySem PySem.W PyProof.Rows PySem.Calls
section
variable {prog:NC}{w:N4}{A:N1}{E:Ng->Nk->Prop}{s:Nk}{a:Addr}{vs:List Ng}
theorem pW {n:Nat}{P:PySem.Fin->Nk->Prop} (ho:s.heap.get? a=some (seqObj "list" vs.toArray n)) (h1:vs.length<2) (h:P (.done (.ret .none)) { s with heap:=sortedHeap s.heap a vs vs.toArray }) :
  wpAny (model prog w) A (Oo.«list.sort» ⟨[.ref a],[]⟩) P E s:=by
 obtain⟨e1,ho1⟩:∃e1,(s.heap.update a (OU fun _=>(#[]:Array Ng))).get? a=some (seqObj "list" #[] e1):=⟨_,RW ho fun _=>#[]⟩
 have hm:(cL s.heap a vs).get? a=some (seqObj "list" #[] e1):=k3 _ (k3 _ ho1)
 rw[list_sort_plain]
 refine gV (RV ho rfl ?_)
 refine gV (Ra ho rfl ?_ (by rw[NB,Oi];lia) (Ox _))
 refine gV (Sh ho1 rfl ?_)
 refine gV (wpAny_newTuple ?_ (by show vs.length<=_;rw[Oi];lia))
 refine gV (Qx ?_ (Ox _))
 refine Oe ?_
 have hn2:vs.toArray.size<2:=by rw[NB];exact h1
 rw[if_pos hn2,if_pos hn2]
 refine gV (k5 ?_)
 refine gV (k5 ?_)
 dsimp only
 have hout:(arrOf (NF.mk' general' (vs.toArray.zip vs.toArray) #[] 7 none)).map (·.2)=vs.toArray:=by
  apply Array.toList_inj.mp
  simp[List.map_snd_zip]
 rw[hout]
 refine gV (Sh hm rfl ?_)
 refine gV (Ra hm rfl ?_ (Ox _) (by rw[Oi];lia))
 simp only[bne_self_eq_false]
 exact k5 h
theorem v_ (hl:s.heap.IsList l vs.toArray) (h1:vs.length<2) (h:Q (.ref (s.heap.objs.size+1)) { s with heap:=sortedAll s.heap vs vs.toArray }) :
  wpAny (model prog w) A (call (.builtin "sorted") [.ref l]) Q E s:=by
 refine Qc kind_sorted plain_sorted entry_sorted (Sw _) ?_
 refine gV (k5 ?_)
 refine gV (collect_list hl ?_ (by rw[Oi];lia))
 refine gV (Qx ?_ (by rw[Oi];lia))
 have hsz:((s.heap.push (seqObj "list" #[] 0)).update s.heap.objs.size (OU (·++vs.toArray))).objs.size=s.heap.objs.size+1:=by
  simp
 have hoL:(cu s.heap vs).get? (s.heap.objs.size+1)=some (seqObj "list" vs.toArray 0):=by
  unfold cu;rw[<- hsz];exact Nm _ rfl
 rw[hsz]
 refine gV (Oe (OE R9 ⟨_,hoL,rfl⟩ RX (pW (s:={ s with heap:=cu s.heap vs }) hoL h1 ⟨_,rfl,?_⟩) (R_ _)))
 exact k5 ⟨_,rfl,h⟩
end
end L2.Srt
namespace L2
open PySem PySem.Spec PyProof.Rows L2.Srt
section
variable {X:Cx}
theorem wZ:bB X (.builtin "sorted") (fun vs H Q=>∃p xs,vs=[.ref p]/\SqL X.K H p xs/\xs.length<2/\∀l,H l=none->Q (.ref l) (upd H l (.lst xs))):=by
 intro pins s σ H xs0 us Q I r h
 obtain⟨p,xs,rfl,hq,h1,q⟩:=h
 obtain⟨u,rfl,rx⟩:=vals1 r
 cases rx
 obtain⟨its,rv,pl,hz⟩:=I.list hq
 have hl:=rv.length
 refine v_ pl.isList (by lia) ?_
 obtain⟨k,hk⟩:=Sx s.heap its its.toArray
 have hn:=I.hok.fresh (Qj _)
 have len:xs.length<=sizeLine:=by
  lia
 refine⟨.ref (s.heap.objs.size+1),upd H (s.heap.objs.size+1) (.lst xs),I.laid (fun _ _ z=>Sn z) (Qj _) ⟨len,its,k,rv,?_⟩,rfl,q _ hn⟩
 rw[hk]
end
end L2
namespace L2.FE
open PySem PySem.Spec PyProof.Rows L2.Srt
noncomputable abbrev Dy (K:ab) (F:VK->VK):List V->Hp->VK->Prop:=fun vs H Q=>∃p xs,vs=[.ref p]/\SqL K H p xs/\xs.length<2/\∀l,H l=none->F Q (.ref l) (upd H l (.lst xs))
end L2.FE
namespace L2.FE
open PySem PySem.Spec PyProof.Rows
noncomputable def setOf (h:Hh) (n:Nat):Option (List Int):=match h[n]? with
 | some (.set ns)=>some ns
 | _=>none
section
variable {X:Cx}{g:GG}{ε:EE}{K:ab}
theorem aV.set (r:aV K g α H h) (e:setOf h n=some ns) (hp:α[n]?=some p):H p=some (.set (fun k=>ns.any (· == k)) ns.length):=by
 unfold setOf at e
 cases eo:h[n]? with
 | none=>simp_all
 | some o=>
  rw[eo] at e
  cases o with
  | set k=>cases e;exact r.here n p _ hp eo
  | _=>cases e
end
noncomputable def gc (h:Hh) (n:Nat):Option (List (List Key × D)):=match h[n]? with
 | some (.dit kvs)=>some kvs
 | _=>none
noncomputable def tF:List (List Key × D)->List Key->Option D
 | [],_=>none
 | p::r,k=>if p.1=k then some p.2 else tF r k
noncomputable def AB (kvs:List (List Key × D)) (k:List Key) (d:D):List (List Key × D):=
 if (kvs.any fun kv=>decide (kv.1=k))=true then kvs.map (fun kv=>if kv.1=k then (kv.1,d) else kv) else kvs++[(k,d)]
noncomputable abbrev PDT (K:ab) (g:GG) (α:List Addr) (H:Hp):List (List Key × D)->List (List Key × V)->Prop:=Paired (fun(a:List Key × D) (b:List Key × V)=>a.1=b.1/\aL K g α H a.2 b.2)
section
variable {K:ab}{g:GG}{α:List Addr}{H:Hp}{h:Hh}
theorem aV.dit (r:aV K g α H h) (e:gc h n=some kvs) (hp:α[n]?=some p):∃kws,H p=some (.dT kws)/\PDT K g α H kvs kws:=by
 unfold gc at e
 cases eo:h[n]? with
 | none=>simp_all
 | some o=>
  rw[eo] at e
  cases o with
  | dit k=>cases e;exact r.here n p _ hp eo
  | _=>cases e
theorem PDT.val (k:List Key):∀{kvs:List (List Key × D)}{kws:List (List Key × V)},PDT K g α H kvs kws->(tF kvs k=none/\jQ kws k=none)\/∃d v,tF kvs k=some d/\jQ kws k=some v/\aL K g α H d v
 | _,_,.nil=>.inl ⟨rfl,rfl⟩
 | p::r,q::t,.cons c rr=>by
  by_cases e:p.1=k
  ·exact .inr ⟨p.2,q.2,if_pos e,jV (c.1 ▸ e),c.2⟩
  ·rw[show tF (p::r) k=tF r k from if_neg e,jT (c.1 ▸ e)]
   exact PDT.val k rr
theorem PDT.any (k:List Key):∀{kvs:List (List Key × D)}{kws:List (List Key × V)},PDT K g α H kvs kws->(kvs.any fun kv=>decide (kv.1=k))=kws.any fun kv=>decide (kv.1=k)
 | _,_,.nil=>rfl
 | p::r,q::t,.cons c rr=>by rw[O6,O6,PDT.any k rr,c.1]
theorem PDT.zB (k:List Key){d:D}{v:V} (rd:aL K g α H d v):∀{kvs:List (List Key × D)}{kws:List (List Key × V)},PDT K g α H kvs kws →
  PDT K g α H (kvs.map fun kv=>if kv.1=k then (kv.1,d) else kv) (kws.map fun kv=>if kv.1=k then (kv.1,v) else kv)
 | _,_,.nil=>.nil
 | p::r,q::t,.cons c rr=>by
  refine .cons ?_ (PDT.zB k rd rr)
  grind
theorem PDT.snoc {x:List Key × D}{y:List Key × V} (c:x.1=y.1/\aL K g α H x.2 y.2):∀{kvs:List (List Key × D)}{kws:List (List Key × V)},PDT K g α H kvs kws->PDT K g α H (kvs++[x]) (kws++[y])
 | _,_,.nil=>.cons c .nil
 | _::_,_::_,.cons b rr=>.cons b (PDT.snoc c rr)
theorem PDT.put (k) (rd:aL K g α H d v) (r:PDT K g α H kvs kws):PDT K g α H (AB kvs k d) (putK kws k v):=by
 unfold AB putK
 rw[PDT.any k r]
 split
 ·exact PDT.zB k rd r
 ·exact PDT.snoc ⟨rfl,rd⟩ r
theorem PDT.ext (e:Ext K α H α' H') (r:PDT K g α H kvs kws):PDT K g α' H' kvs kws:=Paired.JN e.toEx0 r
theorem PDT.length:∀{kvs:List (List Key × D)}{kws:List (List Key × V)},PDT K g α H kvs kws->kvs.length=kws.length
 | _,_,.nil=>rfl
 | _::_,_::_,.cons _ rr=>congrArg (· + 1) (PDT.length rr)
theorem aO.dit (w:aO K g α H Q (.ref h.length) (h++[.dit kvs])) (r:aV K g α H h) (rs:PDT K g α H kvs kws) (hp:H p=none):Q (.ref p) (upd H p (.dT kws)):=by
 have x:=Ext.push (K:=K) (α:=α) (o:=.dT kws) hp
 exact w _ _ _ x (r.push hp ⟨_,bp,rs.ext x⟩) (.ref (by rw[<- r.len];simp))
end
noncomputable def oH:List D->Option (List Key)
 | []=>some []
 | d::ds=>match G8 d,oH ds with
  | some k,some ks=>some (k::ks)
  | _,_=>none
noncomputable def uJ:D->Option (List Key)
 | .tup ds=>oH ds
 | _=>none
theorem yN {K:ab}{g:GG}{α:List Addr}{H:Hp}:∀{ds:List D}{vs:List V}{ks:List Key},au K g α H ds vs->oH ds=some ks->vs=ks.map kV
 | _,_,ks,.nil,e=>by cases e;rfl
 | d::ds,_,ks,.cons r rs,e=>by
  unfold oH at e
  cases e1:G8 d with
  | none=>simp_all
  | some k=>
   cases e2:oH ds with
   | none=>simp_all
   | some ks'=>
    rw[e1,e2] at e
    cases e
    rw[Hi r e1,yN rs e2];rfl
theorem xx {K:ab}{g:GG} (r:aL K g α H d v) (e:uJ d=some k):∃b,v=.ref b/\H b=some (.tup (k.map kV)):=by
 cases r with
 | tup hp rs=>exact⟨_,rfl,by rw[hp,yN rs e]⟩
 | _=>cases e
noncomputable def yR:ME:=fun _ h=>.ok (.ref h.length) (h++[.dit []])
noncomputable def qr:D->D->Hh->R D:=fun o i h=>match o,uJ i with
 | .ref n,some k=>match gc h n with
  | some kvs=>match tF kvs k with
   | some d=>.ok d h
   | none=>.bad
  | none=>.bad
 | _,_=>.bad
noncomputable def qK:D->D->D->Hh->R Unit:=fun o i v h=>match o,uJ i with
 | .ref n,some k=>match gc h n with
  | some kvs=>if kvs.length<1000000 then .ok () (h.set n (.dit (AB kvs k v))) else .bad
  | none=>.bad
 | _,_=>.bad
section
variable {X:Cx}{g:GG}{ε:EE}{o i e f:Expr}{mo mi me mf:ME}{pos:Pos}
theorem Dr:PE X (.Dict [] [] pos) (tM X.K g ε yR):=
 PE.imp Av fun σ H Q ⟨α,env,h,s,w⟩ p hp=>aO.dit (show aO X.K g α H Q _ _ from w) s.heap .nil hp
theorem D0 (hu:X.A.units+1<cLine) (ho:PE X o (tM X.K g ε mo)) (hi:PE X i (tM X.K g ε mi)) (hs:FA i):PE X (.Subscript o i pos) (tM X.K g ε (aq qr mo mi)):=
 PE.imp (EC hu ho hi hs) fun σ H Q ⟨α,env,h,s,w⟩=>tM.use s w.bind fun d1 h1 v1 H1 α1 e1 s1 r1 w1=>tM.use s1 (w1.ext e1).bind fun d2 h2 v2 H2 α2 e2 s2 r2 w2=>by
  unfold qr at w2
  cases ek:uJ d2 with
  | none=>rw[ek] at w2;cases d1<;>exact w2.elim
  | some k=>
   rw[ek] at w2
   cases (r1.ext e2) with
   | @ref n p hp=>
    simp only at w2
    cases ed:gc h2 n with
    | none=>rw[ed] at w2;exact w2.elim
    | some kvs=>
     rw[ed] at w2
     obtain⟨kws,hd,rs⟩:=s2.heap.dit ed hp
     obtain⟨b',rfl,eb⟩:=xx r2 ek
     simp only at w2
     rcases rs.val k with⟨ev,_⟩ | ⟨d,v,ev,ew,rv⟩
     ·rw[ev] at w2;exact w2.elim
     ·rw[ev] at w2
      refine⟨p,v,rfl,?_,aO.now (aO.ext (e1.trans e2) (show aO X.K g α H Q d h2 from w2)) s2.heap rv⟩
      rw[<- ew]
      exact sN.t hd eb
   | _=>exact w2.elim
theorem Hv {p:Pos} (hu:X.A.units+1<cLine) (he:PE X e (tM X.K g ε me)) (ho:PE X o (tM X.K g ε mo)) (hi:PE X i (tM X.K g ε mi))
  (hs:swapsWith e (some (.Subscript o i p)) pos.line X.env=pure false:=by rfl):PS X (.Assign [.Subscript o i p] e pos) (tMS X.K g ε (jF qK mo mi me)):=
 PS.imp (Ew hu ho hi he hs) fun E σ H ⟨α,env,h,s,w⟩=>tM.use s w.bind fun d1 h1 v1 H1 α1 e1 s1 r1 w1=>tM.use s1 (w1.ext e1).bind fun d2 h2 v2 H2 α2 e2 s2 r2 w2=>tM.use s2 (w2.ext e2).bind fun d3 h3 v3 H3 α3 e3 s3 r3 w3=>by
  have w4:=(w3.ext e3).bind
  unfold qK at w4
  cases ek:uJ d3 with
  | none=>rw[ek] at w4;cases d2<;>exact w4.elim
  | some k=>
   rw[ek] at w4
   cases (r2.ext e3) with
   | @ref n p hp=>
    simp only at w4
    cases ed:gc h3 n with
    | none=>rw[ed] at w4;exact w4.elim
    | some kvs=>
     rw[ed] at w4
     obtain⟨hl,w4⟩:=WQ.dO w4
     obtain⟨kws,hd,rs⟩:=s3.heap.dit ed hp
     obtain⟨b',rfl,eb⟩:=xx r3 ek
     refine⟨p,_,rfl,AE.t hd eb (by rw[<- rs.length,Oi];lia),?_⟩
     have x:=Ext.write (o:=.dT (putK kws k v1)) s3.heap hp
     have ra:=(r1.ext e2).ext e3
     exact(show cp X.K g α H E (.nx env) _ from w4) _ _ (e1.trans (e2.trans (e3.trans x))) (s3.heap.write hp ⟨_,bp,(rs.put k ra).ext x⟩) _ (s3.vs.ext x)
   | _=>exact w4.elim
end
end L2.FE
namespace L2
open PySem PySem.Spec PyProof.Rows
noncomputable abbrev FQ (J:It) (ix:List Nat) (σ:St) (wi2:TI) (te:TE) (acc:Addr) (H1:Hp) (Q:VK):Prop:=
 ∃W:Nat->Nat->List V->Hp->Prop,(∃m,W 0 m [] (upd H1 acc (.lst [])))/\∀i m ys H,W i m ys H →
  (J.stop i H/\Q (.ref acc) H)\/(J.go i H/\∀σ0 x H',iy 2 ix σ σ0->J.yld i H x H'->wi2 (σ0.set 0 (some x)) H' fun J2 H2=>
   ∃U:Nat->Nat->List V->Hp->Prop,(∃m2,U 0 m2 ys H2)/\∀j m2 zs H,U j m2 zs H->(J2.stop j H/\∃m',m'<m/\W (i+1) m' zs H) ∨
    (J2.go j H/\∀y H',J2.yld j H y H'->te ((σ0.set 0 (some x)).set 1 (some y)) H' fun v H3=>∃ks,H3 acc=some (.lst ks)/\ks.length<sizeLine/\∃m',m'<m2/\U (j+1) m' (ks++[v]) (upd H3 acc (.lst (ks++[v])))))
noncomputable def wa (wi:TI) (ix:List Nat) (wi2:TI) (te:TE):TE:=fun σ H Q=>wi σ H fun J H1=>∀acc,H1 acc=none->FQ J ix σ wi2 te acc H1 Q
section
variable {prog:NC}{w:N4}{A:N1}{R:Result->Nk->Prop}{s:Nk}{elt tg iter tg2 iter2:Expr}{scope:Rh}{pos:Pos}{it acc:Ng}{env:Env}
noncomputable abbrev e2 (elt tg iter tg2 iter2:Expr) (scope:Rh) (pos:Pos):Expr:=.ListComp elt [⟨tg,iter,[],0⟩,⟨tg2,iter2,[],0⟩] scope pos
theorem BF:compTurn (e2 elt tg iter tg2 iter2 scope pos) 0 it acc env=(standAt iter.pos >>= fun _=>pyNext it >>= fun r=>match r with
  | none=>pure (.done .next)
  | some v=>letOwnedTupleGo tg it v >>= fun _=>assign tg env v >>= fun _=>
   eval iter2 env >>= fun x=>standAt iter2.pos >>= fun _=>foldedSetIterable iter2 env x >>= fun x=>holding [x] (pyIter x) >>= fun i2=>runOwn (.compStart (e2 elt tg iter tg2 iter2 scope pos) 1 i2 acc env) env >>= fun _=>
    again (.compLoop (e2 elt tg iter tg2 iter2 scope pos) 0 it acc env)):=by rfl
theorem Dq:compTurn (e2 elt tg iter tg2 iter2 scope pos) 1 it acc env=(standAt iter2.pos >>= fun _=>pyNext it >>= fun r=>match r with
  | none=>pure (.done .next)
  | some v=>letOwnedTupleGo tg2 it v >>= fun _=>assign tg2 env v >>= fun _=>
   (eval elt env >>= fun x=>call (.builtin "list.append") [acc,x] >>= fun _=>pure ()) >>= fun _=>
    again (.compLoop (e2 elt tg iter tg2 iter2 scope pos) 1 it acc env)):=by rfl
theorem BK (I:Nat->Nk->Prop)
  (turn:∀n s,I n s->wpAny (model prog w) A (pyNext it) (fun r s₁=>match r with
   | none=>R (.ok .next) s₁
   | some v=>wpAny (model prog w) A (letOwnedTupleGo tg2 it v) (fun _ s₁=>wpAny (model prog w) A (assign tg2 env v) (fun _ s₂=>
     wpAny (model prog w) A (eval elt env) (fun x s₄=>wpAny (model prog w) A (call (.builtin "list.append") [acc,x]) (fun _ s₅=>∃m,m<n/\I m s₅) (fun _ _=>False) s₄) (fun _ _=>False) s₂) (fun _ _=>False) s₁) (fun _ _=>False) s₁) (fun _ _=>False) s)
  (n) (h:I n s):codeAny (model prog w) A (.compLoop (e2 elt tg iter tg2 iter2 scope pos) 1 it acc env) R s:=by
 refine Sv rfl I (fun n s hI=>?_) n h
 refine SI ?_
 rw[Dq]
 refine RK ?_
 refine gV (Pk (gV (thn (turn n s hI) fun r s₁ h₁=>?_)))
 cases r with
 | none=>exact k5 h₁
 | some v=>exact gV (thn h₁ fun _ s₂ h₂=>gV (thn h₂ fun _ s₃ h₃=>gV (gV (thn h₃ fun x s₄ h₄=>gV (thn h₄ fun _ s₅ h₅=>k5 (k5 ⟨rfl,h₅⟩))))))
theorem zp (I:Nat->Nk->Prop) (hf:∀x,foldedSetIterable iter2 env x=pure x)
  (turn:∀n s,I n s->wpAny (model prog w) A (pyNext it) (fun r s₁=>match r with
   | none=>R (.ok .next) s₁
   | some v=>wpAny (model prog w) A (letOwnedTupleGo tg it v) (fun _ s₁=>wpAny (model prog w) A (assign tg env v) (fun _ s₂=>
     wpAny (model prog w) A (eval iter2 env) (fun x s₃=>wpAny (model prog w) A (pyIter x) (fun i2 s₄=>
      codeAny (model prog w) A (.compStart (e2 elt tg iter tg2 iter2 scope pos) 1 i2 acc env) (fun r s'=>match r with
       | .ok _=>∃m,m<n/\I m s'
       | .error _=>False) s₄) (fun _ _=>False) s₃) (fun _ _=>False) s₂) (fun _ _=>False) s₁) (fun _ _=>False) s₁) (fun _ _=>False) s)
  (n) (h:I n s):codeAny (model prog w) A (.compLoop (e2 elt tg iter tg2 iter2 scope pos) 0 it acc env) R s:=by
 refine Sv rfl I (fun n s hI=>?_) n h
 refine SI ?_
 rw[BF]
 refine RK ?_
 refine gV (Pk (gV (thn (turn n s hI) fun r s₁ h₁=>?_)))
 cases r with
 | none=>exact k5 h₁
 | some v=>
  refine gV (thn h₁ fun _ s₂ h₂=>gV (thn h₂ fun _ s₃ h₃=>gV (thn h₃ fun x s₄ h₄=>gV (Pk (gV (Sg (hf x) (gV (Oe (thn h₄ fun i2 s₅ h₅=>?_)))))))))
  refine gV (wpAny_runOwn (O_ h₅ fun r s' hr=>?_))
  cases r with
  | ok f=>exact k5 ⟨rfl,hr⟩
  | error e=>simp_all
theorem AS (h0:codeAny (model prog w) A (.compLoop (e2 elt tg iter tg2 iter2 scope pos) 1 it acc env) R s)
  (h:wpAny (model prog w) A (pyIter it) (fun i' s'=>codeAny (model prog w) A (.compLoop (e2 elt tg iter tg2 iter2 scope pos) 1 i' acc env) R s') (fun _ _=>False) s) :
  codeAny (model prog w) A (.compStart (e2 elt tg iter tg2 iter2 scope pos) 1 it acc env) R s:=by
 refine Rl ?_
 refine wpAny_notedAt ?_
 refine RK ?_
 refine gV (wpAny_askSetting ?_)
 split
 ·exact k5 ⟨rfl,h0⟩
 ·exact gV (R4 (gV (Pk (gV (thn h fun i' s' h'=>k5 ⟨rfl,h'⟩)))))
end
theorem zY {X:Cx}{use:Option (Ng->Sem Unit)}{Q2:Ng->Nk->Prop}{pins:List (Addr × Obj)}{s:Nk}{σ:St}{H:Hp}{Q:VK}{elt iter tg iter2 tg2:Expr}{tn':List Str}{scope osc:Rh}{pos:Pos}{wi wi2:TI}{te:TE} (ix:List Nat) (N':List Str)
  (hxe:X.xe=fun _ _=>False) (hc:X.calm=true) (ho:X.env.scope=osc) (hN:N'=tn'++ix.map fun i=>(X.N[i]?).getD ("" : Str)) (hnd:N'.Nodup)
  (hall:(∀y∈scope.names,y.2=.free->osc.names.lookup y.1=some .cell)/\(∀y∈scope.names,y.2≠.cell)/\scope.kind=.function/\(∀y∈scope.names,y.2=.local->scope.names.lookup y.1=some .local)/\(∀y∈N'.drop tn'.length,scope.names.lookup y=some .free))
  (hi:PI X tg iter wi) (hg:∀cl C aD aK fp,PG (bG X scope cl C aD aK fp N') tg (iz 0)) (hi2:∀cl C aD aK fp,PI (bG X scope cl C aD aK fp N') tg2 iter2 wi2) (hg2:∀cl C aD aK fp,PG (bG X scope cl C aD aK fp N') tg2 (iz 1))
  (he:∀cl C aD aK fp,PE (bG X scope cl C aD aK fp N') elt te)
  (hs:∀x,foldedSetIterable iter X.env x=pure x) (hs2:∀env x,foldedSetIterable iter2 env x=pure x) (h2n:tn'.length=2) (I:Inv X pins σ H s) (h:wa wi ix wi2 te σ H Q)
  (hfin:∀(acc C:Addr) (H5:Hp) (s5:Nk) (o:Obj),Inv X (pins++[(C,o)]) σ H5 s5->(∀x c,X.env.cells.lookup x=some c->c≠C)->X.aD.heap.objs.size<=C->(∀p∈X.pn++pins,p.1≠C)->(∃m,∀h':Heap,h'.get? C=some o->h'.Ns C m)->Q (.ref acc) H5->compPost (model X.prog X.w) X.A X.xe use Q2 (.ref acc) C (.ok .next) s5) :
  wpAny (model X.prog X.w) X.A (comprehension (.ListComp elt [⟨tg,iter,[],0⟩,⟨tg2,iter2,[],0⟩] scope pos) scope X.env (firstIterPos [⟨tg,iter,[],0⟩,⟨tg2,iter2,[],0⟩] pos) (newList []) false (eval iter X.env) use) Q2 X.xe s:=by
 obtain⟨hfr,hcell,hkind,hnames,hcap⟩:=hall
 subst ho
 have outc:=fun y hy q=>hfr y hy q
 obtain⟨cl,hclos,hcl1,hcl2⟩:=ju fun y hy q=>I.ok.has y.1 (.inl (outc y hy q))
 refine wpAny_comprehension_free rfl hs hclos hkind hnames (thn (hi pins s σ H _ I h) fun v s1 h1=>thn h1 fun itv s2 h2=>?_)
 obtain⟨it,fp,tn,J,H2,e,I2,T,st2,f2,rest⟩:=h2
 subst e
 have hf2:=I2.hok.fresh (Ni _)
 obtain⟨W,⟨m0,w0⟩,turn⟩:=rest s2.heap.objs.size hf2
 refine N_ ?_
 have I3:=I2.Dj (t':=s2.toks) .nil (Ox _)
 have keep3:∀b o,s2.heap.get? b=some o->(s2.heap.push { cls:=.type "list", dict:=none,data:=.seq ([]:List Ng).toArray }).get? b=some o:=fun b o q=>k3 _ q
 have fp3:=T.obj _ _ st2
 have st3:=T.keep _ _ _ st2 fun b _ o q=>keep3 b o q
 have fpn:∀b∈fp,(upd H2 s2.heap.objs.size (HO.lst [])) b=none:=fun b hb=>by
  obtain⟨o,q,_⟩:=fp3 b hb
  rw[aQ (NA (Nh q))]
  exact(f2 b hb).1
 revert I3 keep3 st3 fpn w0
 generalize hS3:({ s2 with heap:=s2.heap.push { cls:=.type "list", dict:=none,data:=.seq ([]:List Ng).toArray } }:Nk)=s3
 generalize hH3:upd H2 s2.heap.objs.size (HO.lst [])=H3
 intro w0 I3 keep3 st3 fpn
 generalize s2.heap.objs.size=acc at *
 have e3:s2.heap.push { cls:=.type "list", dict:=none,data:=.seq ([]:List Ng).toArray }=s3.heap:=by rw[<- hS3]
 have keep3':∀b o,s2.heap.get? b=some o->s3.heap.get? b=some o:=fun b o q=>by rw[<- e3];exact keep3 b o q
 have st3':tn 0 s3.heap:=by rw[<- e3];exact st3
 refine Q8 hcell (by intro y hy;simp at hy) (fun h₁ hns₁ hsb₁=>?_) hkind
 have hC:s3.heap.objs.size=s3.heap.objs.size:=rfl
 have keep4:∀b o,s3.heap.get? b=some o->h₁.get? b=some o:=fun b o q=>hsb₁.extBut b o (NA (Nh q)) (k3 _ q)
 have fpC:∀b∈fp,b≠s3.heap.objs.size:=fun b hb=>by
  obtain⟨o,q,_⟩:=fp3 b hb
  exact NA (Nh (keep3' b o q))
 -- the block's context
 generalize hX':bG X scope cl s3.heap.objs.size s3 H3 fp N'=X'
 have hXp:X'.prog=X.prog:=by rw[<- hX'];rfl
 have hXw:X'.w=X.w:=by rw[<- hX'];rfl
 have hXK:X'.K=X.K:=by rw[<- hX'];rfl
 have hXA:X'.A=X.A:=by rw[<- hX'];rfl
 have hXe:X'.env=compEnvC scope cl s3.heap.objs.size X.env:=by rw[<- hX'];rfl
 have hXc:X'.calm=true:=by rw[<- hX'];exact hc
 have hXx:X'.xe=fun _ _=>False:=by rw[<- hX'];exact hxe
 have hXf:X'.fs=frs X.stack:=by rw[<- hX'];rfl
 have hXex:X'.ex=fp:=by rw[<- hX'];rfl
 have hXN:X'.N=N':=by rw[<- hX'];rfl
 have hXs:X'.aD=s3:=by rw[<- hX'];rfl
 have hXH:X'.aK=H3:=by rw[<- hX'];rfl
 have hXpn:X'.pn=[]:=by rw[<- hX'];rfl
 have okX:X'.Ok:=by
  rw[<- hX']
  refine⟨I3.ok.mod,hkind,I3.ok.glob,I3.ok.blt,Ni _,fun a b c p q=>I3.ok.inj a b c (hcl1 a c p) (hcl1 b c q),fun y hy=>?_,fun _ _ z=>(by cases z),I3.ok.hd,I3.ok.frames,.inl rfl,fun b hb=>⟨fpC b hb,fun y c p=>(f2 b hb).2.2.2.2.1 y c (hcl1 y c p)⟩,
   I3.bs,NT I3.ok.bsz I3.sz,fun b o p hb=>?_,fun b hb z=>?_,I3.stack,I3.sH⟩
  ·have hy':(relabel scope X.env).names.lookup y=some .cell\/(relabel scope X.env).names.lookup y=some .free:=hy
   have free:scope.names.lookup y=some .free->∃c,cl.lookup y=some c:=fun q=>hcl2 y (lookup_mem q)
   rcases hy' with q | q
   ·rcases dU q with z | ⟨z,_⟩
    ·exact absurd rfl (hcell _ (lookup_mem z))
    ·exact free z
   ·rcases dU q with z | ⟨_,z⟩
    ·exact free z
    ·cases z
  ·rcases(f2 b hb).2.2.2.1 with z | z
   ·exact I3.ok.Ad b o p z
   ·exact absurd (NJ (Nh p) (NT I3.ok.bsz z)) (OD _)
  ·rcases Nx.mp (I3.k_ b z) with q | q
   ·exact(f2 b hb).2.1 q
   ·exact(f2 b hb).2.2.1 q
 have I4:∀tk,Inv X' [] (p6 tn'.length ix σ) H3 { s3 with heap:=h₁,toks:=tk }:=fun tk=>by
  have hloc:=I3.loc
  refine⟨okX,by rw[hXs],I3.bare,?_,⟨fun y=>([]:List (Str × Ng)).reverse.lookup y,by rw[hXe];exact hns₁,fun i y v e1 e2 e3=>?_⟩,fun y c p=>?_,?_,fun y c p=>?_,fun p hp=>?_,?_,?_⟩
  ·rw[hXf,hXex,hXH,hXs];exact Un.kept keep4
  ·rw[hXN,hN] at e1
   by_cases hit':i<tn'.length
   ·exfalso
    unfold p6 at e2
    rw[Nq (by simpa using hit'),PJ,if_pos hit'] at e2
    cases e2
   ·have e10:N'[i]?=some y:=by rw[hN];exact e1
    obtain⟨j,rfl⟩:∃j,i=tn'.length+j:=⟨i - tn'.length,by lia⟩
    have e1':(ix.map fun i=>(X.N[i]?).getD ("" : Str))[j]?=some y:=by
     rw[Ny (by lia)] at e1
     rw[show tn'.length+j - tn'.length=j by lia] at e1
     exact e1
    have e2':(ix.map fun i=>(σ[i]?).join)[j]?=some (some v):=by
     unfold p6 at e2
     rw[Ny (by simp)] at e2
     simpa using e2
    rw[NN] at e1' e2'
    cases hj:ix[j]? with
    | none=>rw[hj] at e1';cases e1'
    | some i0=>
     rw[hj] at e1' e2'
     have e1'':(X.N[i0]?).getD ("" : Str)=y:=by simpa using e1'
     have e2'':(σ[i0]?).join=some v:=by simpa using e2'
     have hsv:σ[i0]?=some (some v):=by
      cases q:σ[i0]? with
      | none=>rw[q] at e2'';cases e2''
      | some z=>rw[q] at e2'';have:z=some v:=by simpa using e2''
                rw[this]
     have hlt:i0<X.N.length:=by
      have:=(NV.mp hsv).1
      rw[I3.len] at this;exact this
     have hNy:X.N[i0]?=some y:=by
      rw[Np hlt] at e1'' ⊢
      simpa using e1''
     have hyt:y∈N'.drop tn'.length:=by
      refine NP (i:=j) ?_
      rw[PQ];exact e10
     have hyf:=hcap y hyt
     have hyc:=outc (y,.free) (lookup_mem hyf) rfl
     obtain⟨m,hn,hl⟩:=hloc
     obtain⟨u,r,l⟩:=hl i0 y v hNy hsv (.inr (.inl hyc))
     refine⟨u,r,?_⟩
     rcases l with⟨k1,_⟩ | ⟨_,c,p,z⟩
     ·have hyc':X.env.kindOf y=some .cell:=hyc
      rw[k1] at hyc';cases hyc'
     ·obtain⟨c',p'⟩:=hcl2 y (lookup_mem hyf)
      have pc:c'=c:=by
       have:=hcl1 y c' p'
       rw[p] at this;cases this;rfl
      subst pc
      refine .inr ⟨.inl ?_,c',by rw[hXe];exact p',?_⟩
      ·rw[hXe];exact dh I3.ok.kind hyf hyc
      ·obtain⟨o,q1,q2⟩:=z
       exact⟨o,keep4 c' o q1,q2⟩
  ·rw[hXe] at p
   obtain⟨v,o,q1,q2⟩:=I3.cell y c (hcl1 y c p)
   exact⟨v,o,keep4 c o q1,q2⟩
  ·rw[hXe];exact I3.hok.fresh (Ni _)
  ·rw[hXe] at p;exact I3.gM y c (hcl1 y c p)
  ·rw[hXpn] at hp;cases hp
  ·rw[hXp,hXw];exact I3.hok.kept keep4
  ·rw[hXN,hN];simp[p6]
 -- the loop
 have stat:∀{H':Hp},(∀b∈fp,H' b=none)->∀b∈fp,mj X' [] H' b:=fun hn b hb=>by
  refine⟨hn b hb,by rw[hXe];exact fpC b hb,?_,.inl (by rw[hXex];exact hb),fun y c p=>?_,fun p hp=>by rw[hXpn] at hp;cases hp⟩
  ·rw[hXf];intro z
   rcases Nx.mp (I3.k_ b z) with q | q
   ·exact(f2 b hb).2.1 q
   ·exact(f2 b hb).2.2.1 q
  ·rw[hXe] at p;exact(f2 b hb).2.2.2.2.1 y c (hcl1 y c p)
 have fin:∀{H5:Hp} {s5:Nk} {σ5:St},Inv X' [] σ5 H5 s5->Q (.ref acc) H5->compPost (model X.prog X.w) X.A X.xe use Q2 (.ref acc) s3.heap.objs.size (.ok .next) s5:=fun{H5 s5 σ5} I5 q=>by
  obtain⟨m,hn,_⟩:=I5.loc
  rw[hXe] at hn
  have hn':s5.heap.Ns s3.heap.objs.size m:=hn
  obtain⟨oC,esC,epC,hC1,hC2,hC3⟩:=hn'
  have u5:=I5.base
  rw[hXf,hXex,hXH,hXs] at u5
  have fr:H5 s3.heap.objs.size=none:=by have:=I5.free;rw[hXe] at this;exact this
  have hok5:=I5.hok
  rw[hXp,hXw] at hok5
  have hos:s5.os=s3.os:=by have:=I5.os;rw[hXs] at this;exact this
  have IX:Inv X pins σ H5 s5:=I3.uH (s':=s5) (ch:=fp) hos u5 hok5 I5.bare (fun b hb=>by
   obtain⟨g0,g1,g2,g3,g4,g5⟩:=f2 b hb
   exact⟨g3,g1,g4,g5⟩)
  have cC:∀x c,X.env.cells.lookup x=some c->c≠s3.heap.objs.size:=fun x c z e=>by
   obtain⟨v,q⟩:=I3.cell x c z
   exact absurd q.lt (by rw[e];exact OD _)
  have pC:∀p∈X.pn++pins,p.1≠s3.heap.objs.size:=fun p hp e=>by
   have:=Nh (I3.pin p hp).1
   rw[e] at this
   exact OD _ this
  refine hfin acc s3.heap.objs.size H5 s5 oC (IX.jW fun p hp=>?_) cC I3.sz pC ⟨m,fun h' z=>⟨oC,esC,epC,z,hC2,hC3⟩⟩ q
  rcases N9.mp hp with z | z
  ·exact IX.pin p (Nl _ z)
  ·have e:=Nz.mp z
   subst e
   refine⟨hC1,fr,Qm I3.lt,I3.Ik (Ni _),fun v e=>?_⟩
   have e':oC.data=.cell v:=e
   rw[hC2] at e';cases e'
 have IsC:∀{σ0:St} {i:Nat} {v:Option V},iy 2 ix σ σ0->i<2->iy 2 ix σ (σ0.set i v):=fun{σ0 i v} ⟨ts,hl,e⟩ hi=>⟨ts.set i v,by rw[PX];exact hl,by rw[e,List.set_append_left _ _ (by rw[hl];exact hi)]⟩
 have loop:∀tk,codeAny (model X.prog X.w) X.A (.compLoop (.ListComp elt [⟨tg,iter,[],0⟩,⟨tg2,iter2,[],0⟩] scope pos) 0 (.ref it) (.ref acc) (compEnvC scope cl s3.heap.objs.size X.env))
   (compPost (model X.prog X.w) X.A X.xe use Q2 (.ref acc) s3.heap.objs.size) { s3 with heap:=h₁,toks:=tk }:=fun tk=>by
  refine zp (fun n s'=>∃i ys σ' H',Inv X' [] σ' H' s'/\iy 2 ix σ σ'/\tn i s'.heap/\(∀b∈fp,H' b=none)/\W i n ys H') (hs2 _) (fun n s5 h5=>?_) m0
   ⟨0,[],p6 tn'.length ix σ,H3,I4 tk,⟨_,by rw[QR];exact h2n,rfl⟩,T.keep _ _ _ st3' fun b _ o q=>keep4 b o q,fpn,w0⟩
  obtain⟨i,ys,σ5,H5,I5,hσ,st5,fr5,w5⟩:=h5
  rcases turn i n ys H5 w5 with⟨stop,q⟩ | ⟨go,step⟩
  ·have d:=T.done X' hXp hXw hXK hXc i [] s5 σ5 H5 (fun _ _=>False) I5 (stat fr5) st5 stop
   rw[hXA] at d
   refine thn d fun r s6 ⟨hr,I6⟩=>?_
   subst hr
   exact fin I6 q
  ·have d:=T.item X' hXp hXw hXK hXc i [] s5 σ5 H5 (fun _ _=>False) I5 (stat fr5) st5 go
   rw[hXA] at d
   refine thn d fun r s6 ⟨u,hr,h6⟩=>?_
   subst hr
   refine thn h6 fun _ s7 ⟨z,H7,I7,r7,y7,st7,fr7⟩=>?_
   have I7':=I7.pinned (stat fr7) (T.obj _ _ st7)
   have again:∀{H9:Hp} {s9:Nk} {ys9:List V} {σ9:St},Inv X' ([]++i4 fp s7.heap) σ9 H9 s9->iy 2 ix σ σ9->(∃m',m'<n/\W (i+1) m' ys9 H9)->∃m',m'<n/\∃i ys σ' H',Inv X' [] σ' H' s9/\iy 2 ix σ σ'/\tn i s9.heap/\(∀b∈fp,H' b=none)/\W i m' ys H':=fun{H9 s9 ys9 σ9} I9 c9 ⟨m',hm,w9⟩=>by
    refine⟨m',hm,i+1,ys9,_,H9,I9.gK,c9,T.keep _ _ _ st7 fun b hb o e=>(I9.pin (b,o) (Nl _ (Nl _ (cR hb e)))).1,fun b hb=>?_,w9⟩
    obtain⟨o,e,_⟩:=T.obj _ _ st7 b hb
    exact(I9.pin (b,o) (Nl _ (Nl _ (cR hb e)))).2.1
   have he':=he cl s3.heap.objs.size s3 H3 fp
   have hg':=hg cl s3.heap.objs.size s3 H3 fp
   have hg2':=hg2 cl s3.heap.objs.size s3 H3 fp
   have hi2':=hi2 cl s3.heap.objs.size s3 H3 fp
   rw[hX'] at he' hg' hg2' hi2'
   rw[<- hXe]
   have a0:=hg' _ s7 σ5 H7 z u (fun σ2 Hn=>σ2=σ5.set 0 (some z)/\Hn=H7) I7' r7 ⟨rfl,rfl⟩
   rw[hXp,hXw,hXA,hXx] at a0
   refine thn a0 fun _ s8 ⟨σ8,H8,I8,e8,e8'⟩=>?_
   subst e8 e8'
   have a1:=hi2' _ s8 _ H8 _ I8 (step σ5 z H8 hσ y7)
   rw[hXp,hXw,hXA,hXx] at a1
   refine thn a1 fun v2 s9 h9=>thn h9 fun itv2 s10 h10=>?_
   obtain⟨it2,fp2,tn2,J2,H10,e10,I10,T2,st10,f10,V,⟨m2,v0⟩,turn2⟩:=h10
   subst e10
   rw[hXp,hXw,hXK] at T2
   have stat2:∀{H':Hp},(∀b∈fp2,H' b=none)->∀b∈fp2,mj X' ([]++i4 fp s7.heap) H' b:=fun hn b hb=>⟨hn b hb,(f10 b hb).2⟩
   have inner:codeAny (model X.prog X.w) X.A (.compLoop (.ListComp elt [⟨tg,iter,[],0⟩,⟨tg2,iter2,[],0⟩] scope pos) 1 (.ref it2) (.ref acc) X'.env) (fun r s'=>match r with
     | .ok _=>∃m',m'<n/\∃i ys σ' H',Inv X' [] σ' H' s'/\iy 2 ix σ σ'/\tn i s'.heap/\(∀b∈fp,H' b=none)/\W i m' ys H'
     | .error _=>False) s10:=by
    refine BK (fun m s'=>∃j zs uo H',Inv X' ([]++i4 fp s7.heap) ((σ5.set 0 (some z)).set 1 uo) H' s'/\tn2 j s'.heap/\(∀b∈fp2,H' b=none)/\V j m zs H') (fun m s11 h11=>?_) m2 ⟨0,ys,((σ5.set 0 (some z))[1]?).join,H10,?_,st10,fun b hb=>(f10 b hb).1,v0⟩
    ·obtain⟨j,zs,uo,H11,I11,st11,fr11,v11⟩:=h11
     rcases turn2 j m zs H11 v11 with⟨stop2,q2⟩ | ⟨go2,step2⟩
     ·have d:=T2.done X' hXp hXw hXK hXc j _ s11 _ H11 (fun _ _=>False) I11 (stat2 fr11) st11 stop2
      rw[hXA] at d
      refine thn d fun r s12 ⟨hr,I12⟩=>?_
      subst hr
      exact again I12 (IsC (IsC hσ (by decide)) (by decide)) q2
     ·have d:=T2.item X' hXp hXw hXK hXc j _ s11 _ H11 (fun _ _=>False) I11 (stat2 fr11) st11 go2
      rw[hXA] at d
      refine thn d fun r s12 ⟨u2,hr,h12⟩=>?_
      subst hr
      refine thn h12 fun _ s13 ⟨z2,H13,I13,r13,y13,st13,fr13⟩=>?_
      have I13':=I13.pinned (stat2 fr13) (T2.obj _ _ st13)
      have b0:=hg2' _ s13 _ H13 z2 u2 (fun σ2 Hn=>σ2=((σ5.set 0 (some z)).set 1 uo).set 1 (some z2)/\Hn=H13) I13' r13 ⟨rfl,rfl⟩
      rw[hXp,hXw,hXA,hXx] at b0
      refine thn b0 fun _ s14 ⟨σ14,H14,I14,e14,e14'⟩=>?_
      subst e14 e14'
      rw[List.set_set] at I14
      have b1:=he' _ s14 _ H14 _ I14 (step2 z2 H14 y13)
      rw[hXp,hXw,hXA,hXx] at b1
      refine thn b1 fun yv s15 ⟨y,H15,I15,r15,ks,q1,q2,q3⟩=>?_
      have b2:=lu (X:=X') _ s15 _ H15 (.ref acc) [y] (.ref acc) [yv] (fun _ Hq=>∃m',m'<m/\V (j+1) m' (ks++[y]) Hq) I15 rfl (.cons r15 .nil) ⟨acc,ks,y,rfl,rfl,q1,q2,q3⟩
      rw[hXp,hXw,hXA,hXx] at b2
      refine thn b2 fun _ s16 ⟨_,H16,I16,_,m',hm',w16⟩=>?_
      refine⟨m',hm',j+1,ks++[y],some z2,H16,I16.gK,T2.keep _ _ _ st13 fun b hb o e=>(I16.pin (b,o) (Nl _ (Nl _ (cR hb e)))).1,fun b hb=>?_,w16⟩
      obtain⟨o,e,_⟩:=T2.obj _ _ st13 b hb
      exact(I16.pin (b,o) (Nl _ (Nl _ (cR hb e)))).2.1
    ·have:(σ5.set 0 (some z)).set 1 ((σ5.set 0 (some z))[1]?).join=σ5.set 0 (some z):=by
      obtain⟨ts,hl,e⟩:=hσ
      match ts,hl with
      | [p,q],_=>rw[e];rfl
     rw[this];exact I10
   refine AS inner ?_
   exact T2.self _ 0 _ _ _ st10 inner
 refine codeAny_compStart_list (loop _) ?_
 exact T.self _ 0 _ _ _ (T.keep _ _ _ st3' fun b _ o q=>keep4 b o q) (loop _)
section
variable {X:Cx}{elt iter tg iter2 tg2:Expr}{scope osc:Rh}{pos:Pos}{wi wi2:TI}{te:TE}
theorem uY {py spos:Pos} (ix) (tn' N') (h2n:tn'.length=2)
  (hxe:X.xe=fun _ _=>False) (hc:X.calm=true) (ho:X.env.scope=osc) (hN:N'=tn'++ix.map fun i=>(X.N[i]?).getD ("" : Str)) (hnd:N'.Nodup)
  (hall:(∀y∈scope.names,y.2=.free->osc.names.lookup y.1=some .cell)/\(∀y∈scope.names,y.2≠.cell)/\scope.kind=.function/\(∀y∈scope.names,y.2=.local->scope.names.lookup y.1=some .local)/\(∀y∈N'.drop tn'.length,scope.names.lookup y=some .free))
  (hi:PI X tg iter wi) (hg:∀cl C aD aK fp,PG (bG X scope cl C aD aK fp N') tg (iz 0)) (hi2:∀cl C aD aK fp,PI (bG X scope cl C aD aK fp N') tg2 iter2 wi2) (hg2:∀cl C aD aK fp,PG (bG X scope cl C aD aK fp N') tg2 (iz 1))
  (he:∀cl C aD aK fp,PE (bG X scope cl C aD aK fp N') elt te)
  (hNN:X.N.Nodup) (hy:X.N[i]?=some y) (hl:X.env.scope.names.lookup y=some .local)
  (hsw:swapsWith (.ListComp elt [⟨tg,iter,[],0⟩,⟨tg2,iter2,[],0⟩] scope pos) (some (.Name y py)) spos.line X.env=pure true:=by rfl)
  (hs:∀x,foldedSetIterable iter X.env x=pure x:=by intro _;rfl) (hs2:∀env x,foldedSetIterable iter2 env x=pure x:=by intro _ _;rfl) :
  PS X (.Assign [.Name y py] (.ListComp elt [⟨tg,iter,[],0⟩,⟨tg2,iter2,[],0⟩] scope pos) spos) (CJ (wa wi ix wi2 te) (iz i)):=by
 intro pins s σ H D I h
 rw[exec_Assign_Name_used _ _ _ _ hsw]
 refine gV (Pk ?_)
 refine gV ?_
 refine gV (zY ix N' hxe hc ho hN hnd hall hi hg hi2 hg2 he hs hs2 h2n I h fun acc C H5 s5 o I5 cC hC pC hm q=>?_)
 obtain⟨m,hm⟩:=hm
 refine RD (fP (v:=.ref acc) I5 hNN hy (.inl hl) rfl (fun s6 I6=>?_) (.inr hl))
 refine⟨m,hm _ (I6.pin (C,o) (Nl _ (Nl _ (Nz.mpr rfl)))).1,fun h' hs'=>?_⟩
 exact k5 (k5 ⟨_,H5,I6.FW cC hC pC hs',q⟩)
end
end L2
namespace L2.FE
open PySem PySem.Spec PyProof.Rows
noncomputable def ku (ix:List Nat) (env:En) (a b:Option D):En:=a::b::ix.map fun i=>(env[i]?).join
noncomputable def Fh (n0:Nat) (y:D) (h:Hh):R Unit:=match aG h n0 with
 | some ds=>if ds.length<1000000 then .ok () (h.set n0 (.lst (ds++[y]))) else .bad
 | none=>.bad
noncomputable def Bo (n0:Nat) (rd:Rdr) (te:ME) (ff:D->En):Nat->Nat->Hh->R Unit
 | k,j,h=>match rd h j with
  | none=>.bad
  | some none=>.ok () h
  | some (some e)=>match k with
   | 0=>.bad
   | k+1=>(te (ff e) h).bind fun y h2=>(Fh n0 y h2).bind fun _ h3=>Bo n0 rd te ff k (j+1) h3
noncomputable def zU (n0:Nat) (rd:Rdr) (mi2:MI) (te:ME) (ff:Option D->Option D->En):Nat->Nat->Hh->R Unit
 | k,i,h=>match rd h i with
  | none=>.bad
  | some none=>.ok () h
  | some (some d)=>match k with
   | 0=>.bad
   | k+1=>(mi2 (ff (some d) none) h).bind fun sr h1=>(Bo n0 sr.rdr te (fun e=>ff (some d) (some e)) (sr.fuel h1) 0 h1).bind fun _ h2=>zU n0 rd mi2 te ff k (i+1) h2
noncomputable def xF (mi:MI) (ix:List Nat) (mi2:MI) (te:ME):ME:=fun env h=>(mi env h).bind fun sr h1=>(zU h1.length sr.rdr mi2 te (ku ix env) (sr.fuel h1) 0 (h1++[.lst []])).bind fun _ h2=>.ok (.ref h1.length) h2
section
variable {K:ab}{g:GG}
theorem tR {α:List Addr}{H:Hp}{env:En}{σ:St}{ix:List Nat}{a b:Option D}{p q:Option V} (s:jh K g α H env σ) (ra:∀d,a=some d->∃v,p=some v/\aL K g α H d v) (rb:∀d,b=some d->∃v,q=some v/\aL K g α H d v):jh K g α H (ku ix env a b) (p::q::ix.map fun i=>(σ[i]?).join):=by
 refine⟨by simp[ku],fun i e h=>?_⟩
 match i with
 | 0=>
  have:a=some e:=by simpa [ku] using h
  simp_all
 | 1=>
  have:b=some e:=by simpa [ku] using h
  simp_all
 | i+2=>
  have h':(ix.map fun i=>(env[i]?).join)[i]?=some (some e):=by assumption
  rw[NN] at h'
  cases ei:ix[i]? with
  | none=>simp_all
  | some j=>
   rw[ei] at h'
   have h2:(env[j]?).join=some e:=by simp_all
   cases ej:env[j]? with
   | none=>simp_all
   | some oe=>
    rw[ej] at h2
    have h3:oe=some e:=by simp_all
    subst h3
    obtain⟨u,eu,ru⟩:=s.vars j e ej
    simp_all
theorem rN {α α':List Addr}{n:Nat}{p:Addr}{H H':Hp} (e:Ext K α H α' H') (h:α[n]?=some p):α'[n]?=some p:=by
 obtain⟨l,rfl⟩:=e.toEx0.pre
 rw[Nq]
 ·exact h
 ·by_cases hl:n<α.length
  ·exact hl
  ·rw[OJ (by lia)] at h;cases h
theorem zN {mi mi2:MI}{te:ME}{ix:List Nat}{σ:St}{H:Hp}{Q:VK} (t:tM K g E00 (xF mi ix mi2 te) σ H Q):wa (tMI K g E00 mi) ix (tMI K g E00 mi2) (tM K g E00 te) σ H Q:=by
 obtain⟨α,env,h,s,w⟩:=t
 refine⟨α,env,h,s,w.bind.mono fun sr h1 _ w1 J H1 α1 e1 hr1 rd=>fun acc hacc=>?_⟩
 have s1:=s.ext e1 hr1
 have xp:Ext K α1 H1 (α1++[acc]) (upd H1 acc (.lst [])):=Ext.push hacc
 have hrp:aV K g (α1++[acc]) (upd H1 acc (.lst [])) (h1++[.lst []]):=hr1.push hacc ⟨[],bp,.nil⟩
 have p0:(α1++[acc])[h1.length]?=some acc:=by rw[<- hr1.len];simp
 refine⟨fun i m ys H=>∃α h,Ext K α1 H1 α H/\α[h1.length]?=some acc/\aV K g α H h ∧
  WQ K g E00 α1 H1 ((zU h1.length sr.rdr mi2 te (ku ix env) m i h).bind fun _ h2=>.ok (.ref h1.length) h2) (aO K g α1 H1 Q),
  ⟨sr.fuel h1,_,_,xp,p0,hrp,w1.post e1⟩,?_⟩
 rintro i m ys H2 ⟨α2,h2,x2,p2,hr2,w2⟩
 have q:=rd α2 H2 h2 x2 hr2 i
 unfold zU at w2
 cases e:sr.rdr h2 i with
 | none=>rw[e] at w2;exact w2.elim
 | some od=>
  rw[e] at w2 q
  cases od with
  | none=>exact .inl ⟨q,(show aO K g α1 H1 Q (.ref h1.length) h2 from w2) _ _ _ x2 hr2 (.ref p2)⟩
  | some d=>
   cases m with
   | zero=>exact w2.elim
   | succ m=>
    rw[cB] at w2
    have w3:=WQ.bind (show WQ K g E00 α1 H1 ((mi2 (ku ix env (some d) none) h2).bind _) _ from w2)
    refine .inr ⟨q.1,fun σ0 x H3 hcap y=>?_⟩
    obtain⟨ts,hl,hσ0⟩:=hcap
    match ts,hl with
    | [v0,q0],_=>
    subst hσ0
    obtain⟨α3,x3,hr3,rx⟩:=q.2 x H3 y
    have s3:cZ K g α3 H3 (ku ix env (some d) none) (some x::q0::ix.map fun i=>(σ[i]?).join) h2:=⟨hr3,tR (s1.vs.ext (x2.trans x3)) (fun d' hd=>by simp_all) (fun d' hd=>by cases hd)⟩
    refine⟨α3,_,h2,s3,((w3.ext x2).ext x3).mono fun sr2 h4 _ w4 J2 H4 α4 x4 hr4 rd2=>?_⟩
    have x14:=x2.trans (x3.trans x4)
    have p4:=rN (x3.trans x4) p2
    refine⟨fun j m2 zs H=>∃α h,Ext K α4 H4 α H/\aV K g α H h ∧
     WQ K g E00 α1 H1 (((Bo h1.length sr2.rdr te (fun e=>ku ix env (some d) (some e)) m2 j h).bind fun _ h2=>zU h1.length sr.rdr mi2 te (ku ix env) m (i+1) h2).bind fun _ h2=>.ok (.ref h1.length) h2) (aO K g α1 H1 Q),
     ⟨sr2.fuel h4,α4,h4,Ext.refl,hr4,w4⟩,?_⟩
    rintro j m2 zs H5 ⟨α5,h5,x5,hr5,w5⟩
    have q2:=rd2 α5 H5 h5 x5 hr5 j
    have p5:=rN x5 p4
    unfold Bo at w5
    cases e2:sr2.rdr h5 j with
    | none=>rw[e2] at w5;exact w5.elim
    | some od2=>
     rw[e2] at w5 q2
     cases od2 with
     | none=>exact .inl ⟨q2,m,OS _,α5,h5,x14.trans x5,p5,hr5,w5⟩
     | some d2=>
      cases m2 with
      | zero=>exact w5.elim
      | succ m2=>
       have w6:WQ K g E00 α1 H1 ((te (ku ix env (some d) (some d2)) h5).bind fun y h2=>(((Fh h1.length y h2).bind fun _ h3=>Bo h1.length sr2.rdr te (fun e=>ku ix env (some d) (some e)) m2 (j+1) h3).bind fun _ h2=>zU h1.length sr.rdr mi2 te (ku ix env) m (i+1) h2).bind fun _ h2=>.ok (.ref h1.length) h2) (aO K g α1 H1 Q):=by
        have:=w5
        simp only[cB] at this ⊢
        lia
       refine .inr ⟨q2.1,fun yv H6 yy=>?_⟩
       obtain⟨α6,x6,hr6,ry⟩:=q2.2 yv H6 yy
       have s6:cZ K g α6 H6 (ku ix env (some d) (some d2)) (some x::some yv::ix.map fun i=>(σ[i]?).join) h5:=⟨hr6,tR (s1.vs.ext (x14.trans (x5.trans x6))) (fun d' hd=>by cases hd;exact⟨x,rfl,rx.ext (x4.trans (x5.trans x6))⟩) (fun d' hd=>by simp_all)⟩
       refine tM.use s6 ((WQ.bind w6).ext (x14.trans (x5.trans x6))) fun y h7 v7 H7 α7 x7 s7 r7 w7=>?_
       have p7:=rN (x6.trans x7) p5
       unfold Fh at w7
       cases el:aG h7 h1.length with
       | none=>rw[el] at w7;exact w7.elim
       | some ds=>
        rw[el] at w7
        dsimp only at w7
        by_cases hlen:ds.length<1000000
        ·rw[if_pos hlen] at w7
         obtain⟨vs,hv,rs⟩:=s7.heap.lst el p7
         have x:=Ext.write (o:=.lst (vs++[v7])) s7.heap p7
         exact⟨vs,hv,by rw[<- rs.length,Oi];lia,m2,OS _,α7,_,(x5.trans (x6.trans x7)).trans x,s7.heap.write (u':=.lst (ds++[y])) p7 ⟨_,bp,(rs.append (.cons r7 .nil)).ext x⟩,w7⟩
        ·rw[if_neg hlen] at w7;exact w7.elim
end
section
variable {X:Cx}{g:GG}
theorem wL {elt iter iter2:Expr}{x y z:Str}{px py pz:Pos}{scope osc:Rh}{pos spos:Pos}{mi mi2:MI}{te:ME}{i:Nat} (ix:List Nat) (N':List Str)
  (hxe:X.xe=fun _ _=>False) (hc:X.calm=true) (ho:X.env.scope=osc) (hN:N'=[x,y]++ix.map fun i=>(X.N[i]?).getD ("" : Str)) (hnd:N'.Nodup)
  (hall:(∀y∈scope.names,y.2=.free->osc.names.lookup y.1=some .cell)/\(∀y∈scope.names,y.2≠.cell)/\scope.kind=.function/\(∀y∈scope.names,y.2=.local->scope.names.lookup y.1=some .local)/\(∀z∈N'.drop [x,y].length,scope.names.lookup z=some .free))
  (hi:PI X (.Name x px) iter (tMI X.K g E00 mi))
  (hx:∀cl C aD aK fp,Loc (bG X scope cl C aD aK fp N').env.scope x/\(bG X scope cl C aD aK fp N').env.scope.names.lookup x=some .local) (hy:∀cl C aD aK fp,Loc (bG X scope cl C aD aK fp N').env.scope y/\(bG X scope cl C aD aK fp N').env.scope.names.lookup y=some .local)
  (hi2:∀cl C aD aK fp,PI (bG X scope cl C aD aK fp N') (.Name y py) iter2 (tMI X.K g E00 mi2))
  (he:∀cl C aD aK fp,PE (bG X scope cl C aD aK fp N') elt (tM X.K g E00 te))
  (hNN:X.N.Nodup) (hz:X.N[i]?=some z) (hl:X.env.scope.names.lookup z=some .local:=by rfl)
  (hsw:swapsWith (.ListComp elt [⟨.Name x px,iter,[],0⟩,⟨.Name y py,iter2,[],0⟩] scope pos) (some (.Name z pz)) spos.line X.env=pure true:=by rfl)
  (hs:∀x,foldedSetIterable iter X.env x=pure x:=by intro _;rfl) (hs2:∀env x,foldedSetIterable iter2 env x=pure x:=by intro _ _;rfl) :
  PS X (.Assign [.Name z pz] (.ListComp elt [⟨.Name x px,iter,[],0⟩,⟨.Name y py,iter2,[],0⟩] scope pos) spos) (tMS X.K g E00 (bf i (xF mi ix mi2 te))):=
 PS.imp (uY ix [x,y] N' rfl hxe hc ho hN hnd hall hi (fun cl C aD aK fp=>ir hnd (show N'[0]?=some x by rw[hN];rfl) (hx cl C aD aK fp).1 (.inr (hx cl C aD aK fp).2)) hi2 (fun cl C aD aK fp=>ir hnd (show N'[1]?=some y by rw[hN];rfl) (hy cl C aD aK fp).1 (.inr (hy cl C aD aK fp).2)) he hNN hz hl hsw hs hs2) fun E σ H ⟨α,env,h,s,w⟩=>zN (tM.use s w.bind fun d1 h1 v1 H1 α1 e1 s1 r1 w1=>(show cp X.K g α H E (.nx (env.set i (some d1))) h1 from w1) H1 α1 e1 s1.heap _ (s1.vs.set r1))
end
noncomputable def Bd (x:Str) (st:Stmt) (ps:List Str):Prop:=∀(kV doc pm:Ng) (an:Option Addr) (cdv ct:Ng) (us:List Ng),us.length=ps.length->bindArgs (Oh x x (dv st) (b8 st) (ak st) .none kV doc pm an cdv ct) ⟨us,[]⟩=pure (ps.zip us)
section
variable {P:NC}{w:N4}{K:ab}{mg:Str->Option Ng}{base:Heap}{g:GG}{x:Str}{st:Stmt}{k:Nat}{N ps:List Str}{mb:MS}{m:MF}
theorem fsc {sc:Rh} (a:sc.kind=.function/\sc.isCoroutine=false/\sc.isGenerator=false) (b:(N.Nodup/\N.take ps.length=ps)/\(∀x∈ps,sc.names.lookup x=some .local\/sc.names.lookup x=some .cell)/\∀y∈sc.names,y.2≠.free):aA N ps sc:=⟨a.1,a.2.1,a.2.2,b.1.1,b.1.2,b.2.1,b.2.2⟩
theorem c6 (D:az K mg x st) (S:aA N ps (ak st)) (B:Bd x st ps)
  (hb:N.Nodup->∀(f:Addr) (cdv:Ng) (A:N1) (outer:List Env) (s:Nk) (H:Hp) (E:XK),eJ k (A.deeper (envOfC x (ak st) s.heap.objs.size f cdv)) →
   PSs (jJ CX0 P w K mg base N x (ak st) f cdv A outer s H E).nox (b8 st) (tMS K g E00 mb)):Has P w K mg base g x (k+1) ps (bN N.length mb):=
 let ⟨f,fd,hm,F⟩:=D
 ⟨f,fd,nE F S (hb S.nd f),F.kp,F.binds B,hm,cb F⟩
theorem BP (h:Has P w K mg base g x k ps m):Has P w K mg base g x k ps fun ds h=>(m ds h).bind (di h):=let ⟨f,fd,a,b⟩:=h;⟨f,fd,mV a,b⟩
theorem Ei (h:Has P w K mg base g x k ps m):Has P w K mg base g x k ps (lq m):=let ⟨f,fd,a,b⟩:=h;⟨f,fd,wH a,b⟩
theorem bd1 {p:Str} (h:∀kV doc pm an cdv ct a,bindArgs (Oh x x (dv st) (b8 st) (ak st) .none kV doc pm an cdv ct) ⟨[a],[]⟩=pure ([p].zip [a])):Bd x st [p]:=fun _ _ _ _ _ _ us hl=>Af hl (h _ _ _ _ _ _)
theorem bd2 {p q:Str} (h:∀kV doc pm an cdv ct a b,bindArgs (Oh x x (dv st) (b8 st) (ak st) .none kV doc pm an cdv ct) ⟨[a,b],[]⟩=pure ([p,q].zip [a,b])):Bd x st [p,q]:=fun _ _ _ _ _ _ us hl=>yZ hl (h _ _ _ _ _ _)
theorem bd3 {p q r:Str} (h:∀kV doc pm an cdv ct a b c,bindArgs (Oh x x (dv st) (b8 st) (ak st) .none kV doc pm an cdv ct) ⟨[a,b,c],[]⟩=pure ([p,q,r].zip [a,b,c])):Bd x st [p,q,r]:=fun _ _ _ _ _ _ us hl=>DT hl (h _ _ _ _ _ _)
end
section
variable {X:Cx}{g:GG}{E:XK}{k j:Nat}{ps:List Str}{m:MF}{x:Str}{p pos:Pos}{e:Expr}{es:List Expr}{mr:MA}
theorem aZ (F:Has X.prog X.w X.K X.mg X.base g x j ps m) (hr:eJ k X.A) (ha:PA X (e::es) (tMA X.K g E00 mr)) (hlen:∀env h ds h',mr env h=.ok ds h'->ds.length=ps.length) (hj:j<=k:=by decide) (hg:Gl X x:=by rfl) (hdb:(x == ("__debug__" : Str))=false:=by decide) (he:starEach (e::es) X.env=(false,eval e X.env)::starEach es X.env:=by rfl) (hpl:(backTo pos (starEach es X.env)).any (·.1)=false:=by rfl) :
  PE X (.Call (.Name x p) (e::es) [] pos) (tM X.K g E00 (ah m mr)):=
 let ⟨_,_,G,hk,B,hm,_⟩:=F
 cF (G.mono hj) hr hg hm hk B ha hlen hdb he hpl
end
section
variable {K:ab}{mg:Str->Option Ng}{x y:Str}{st:Stmt}
noncomputable def k8 (K:ab) (mg:Str->Option Ng) (x y:Str) (st:Stmt):Prop:=∃f fd,mg x=some (.ref f)/\Fun K y y st f fd
noncomputable def rT (K:ab) (x y:Str) (st:Stmt):Prop:=∃f fd,NX K mainGlobals x=some (some (.ref f))/\Fun K y y st f fd
theorem DY {f:Addr}{oc:Ng}{od an:Option Addr}{osl:Array (Option Ng)}{kV doc pm cdv ct:Ng} (a:NX K mainGlobals x=some (some (.ref f)))
  (l:K.lookup f=some ⟨oc,od,.func (Oh y y (dv st) (b8 st) (ak st) .none kV doc pm an cdv ct),osl⟩) (c:PK K cdv y=true) (k:Oy K (.ref f)=true):rT K x y st:=⟨f,_,a,wx l c k⟩
theorem k8.of {h:Heap} (X:K.In h) (G:h.Ns mainGlobals mg) (d:rT K x y st):k8 K mg x y st:=
 let ⟨f,fd,a,F⟩:=d;⟨f,fd,P4 X G a,F⟩
end
variable {X:Cx}{g:GG}
theorem xI {K:ab}{ε:EE}{mi:MI}{ix:List Nat}{tt:TT}{te:TE}{σ:St}{H:Hp}{Q:VK} (t:EJ (tMI K g ε mi) ix tt te σ H Q):sY (tMI K g ε mi) 1 ix (iz 0) tt te σ H Q:=by
 obtain⟨α,env,h,s,w⟩:=t
 refine⟨α,env,h,s,w.mono fun sr h1 _ z J H' α' e hr rd acc ha=>?_⟩
 obtain⟨W,w0,st⟩:=z J H' α' e hr rd acc ha
 refine⟨W,w0,fun i m ys H1 hw=>(st i m ys H1 hw).imp id fun⟨a,b⟩=>⟨a,fun σ0 x H2 hc hy=>?_⟩⟩
 obtain⟨ts,tl,rfl⟩:=hc
 match ts,tl with
 | [t0],_=>exact⟨⟨[some x],rfl,rfl⟩,b x H2 hy⟩
theorem cI [jj nl]{elt iter:Expr}{x:Str}{px:Pos}{ifs:List Expr}{scope osc:Rh}{pos:Pos}{mi:MI}{tt:MT}{te:ME} (ix) (N')
  (hxe:X.xe=fun _ _=>False) (hc:X.calm=true) (ho:X.env.scope=osc) (hN:N'=x::ix.map fun i=>(X.N[i]?).getD ("" : Str)) (hnd:N'.Nodup)
  (hall:(∀y∈scope.names,y.2=.free->osc.names.lookup y.1=some .cell)/\(∀y∈scope.names,y.2≠.cell)/\scope.kind=.function/\(∀y∈scope.names,y.2=.local->scope.names.lookup y.1=some .local)/\scope.names.lookup x=some .local/\(∀y∈N'.tail,scope.names.lookup y=some .free))
  (hi:PI X (.Name x px) iter (tMI X.K g E00 mi))
  (ht:∀cl C aD aK fp,PTs (bG X scope cl C aD aK fp N') ifs (tMT X.K g E00 tt))
  (he:∀cl C aD aK fp,PE (bG X scope cl C aD aK fp N') elt (tM X.K g E00 te))
  (hs:∀x,foldedSetIterable iter X.env x=pure x:=by intro _;rfl) :
  PE X (.ListComp elt [⟨.Name x px,iter,ifs,0⟩] scope pos) (tM X.K g E00 (cN nl mi ix tt te)):=by
 refine PE.imp (PE.frz (Ca ix [x] N' hxe hc ho hN hnd ⟨hall.1,hall.2.1,hall.2.2.1,hall.2.2.2.1,fun y hy=>hall.2.2.2.2.2 y (by simp_all)⟩ hi (fun cl C aD aK fp=>ir hnd (show N'[0]?=some x by grind) (.inl (P_ hall.2.2.2.2.1)) (.inr (P_ hall.2.2.2.2.1))) ht he hs)) fun σ H Q t=>?_
 exact xI (uA (fun _ _ z=>z) t)
theorem nS {nl:NL} [jj nl]{elt iter:Expr}{x z:Str}{px pz:Pos}{ifs:List Expr}{scope osc:Rh}{pos spos:Pos}{mi:MI}{tt:MT}{te:ME}{i:Nat} (ix:List Nat) (N':List Str)
  (hxe:X.xe=fun _ _=>False) (hc:X.calm=true) (ho:X.env.scope=osc) (hN:N'=x::ix.map fun i=>(X.N[i]?).getD ("" : Str)) (hnd:N'.Nodup)
  (hall:(∀y∈scope.names,y.2=.free->osc.names.lookup y.1=some .cell)/\(∀y∈scope.names,y.2≠.cell)/\scope.kind=.function/\(∀y∈scope.names,y.2=.local->scope.names.lookup y.1=some .local)/\scope.names.lookup x=some .local/\(∀y∈N'.tail,scope.names.lookup y=some .free))
  (hi:PI X (.Name x px) iter (tMI X.K g E00 mi))
  (ht:∀cl C aD aK fp,PTs (bG X scope cl C aD aK fp N') ifs (tMT X.K g E00 tt))
  (he:∀cl C aD aK fp,PE (bG X scope cl C aD aK fp N') elt (tM X.K g E00 te))
  (hNN:X.N.Nodup) (hz:X.N[i]?=some z) (hl:X.env.scope.names.lookup z=some .local:=by rfl)
  (hsw:swapsWith (.ListComp elt [⟨.Name x px,iter,ifs,0⟩] scope pos) (some (.Name z pz)) spos.line X.env=pure true:=by rfl)
  (hs:∀x,foldedSetIterable iter X.env x=pure x:=by intro _;rfl) :
  PS X (.Assign [.Name z pz] (.ListComp elt [⟨.Name x px,iter,ifs,0⟩] scope pos) spos) (tMS X.K g E00 (bf i (cN nl mi ix tt te))):=by
 refine PS.imp (PS.frz (vg ix [x] N' hxe hc ho hN hnd ⟨hall.1,hall.2.1,hall.2.2.1,hall.2.2.2.1,fun y hy=>hall.2.2.2.2.2 y (by simp_all)⟩ hi (fun cl C aD aK fp=>ir hnd (show N'[0]?=some x by grind) (.inl (P_ hall.2.2.2.2.1)) (.inr (P_ hall.2.2.2.2.1))) ht he hNN hz hl hsw hs)) fun E σ H ⟨α,env,h,s,w⟩=>xI (uA (fun v H1 z=>CQ z) (tM.use s w.bind fun d1 h1 v1 H1 α1 e1 s1 r1 w1=>(show cp X.K g α H E (.nx (env.set i (some d1))) h1 from w1) H1 α1 e1 s1.heap _ (s1.vs.set r1)))
end L2.FE
namespace L2
open PySem PySem.Spec PyProof.Rows
noncomputable def mM (h:Heap) (d:Addr) (es:Array Ta) (ep:Nat):Prop:=∃q,h.get? d=some q/\q.ExactDict/\q.data=.dict es ep
section
variable {prog:NC}{w:N4}{A:N1}{E:Ng->Nk->Prop}{s:Nk}{it d:Addr}{i ep:Nat}{es:Array Ta}
theorem mM.typeIs (x:mM s.heap d es ep):s.TypeIs (.ref d) "dict" := let ⟨q,a,b,_⟩:=x;⟨q,a,b.1⟩
theorem mM.keep {h h':Heap} (x:mM h d es ep) (k:∀q,h.get? d=some q->h'.get? d=some q):mM h' d es ep:=let ⟨q,a,b⟩:=x;⟨q,k q a,b⟩
theorem mM.lt {h:Heap} (x:mM h d es ep):d<h.objs.size:=let ⟨_,a,_⟩:=x;Nh a
theorem Cp (lo:(d == sysModules)=false) (x:mM s.heap d es ep)
  (hQ:Q (.ref s.heap.objs.size) { s with heap:=s.heap.push { cls:=.type "dict_keyiterator", data:=.fields #[.ref d,.int 0 0,.int es.size 0,.int ep 0] } }):wpAny (model prog w) A (pyIter (.ref d)) Q E s:=by
 obtain⟨q,a,_,c⟩:=id x
 have T:=x.typeIs
 refine wpAny_pyIter_slot T F.slot_dict_iter (OE F.slot_dict_iter T F.entry_dict_iter (by
  unfold Oo.«dict.__iter__»;refine gV ?_
  refine gV (wpAny_notOrdered_dict T ?_);refine k5 ?_
  show wpAny _ _ (Oo.Dict.showsAll d >>= _) _ _ s;unfold Oo.Dict.showsAll;rw[if_neg (by simp_all)]
  refine gV (k5 (gV (RI a c (gV (R0 a c (gV (N_ (k5 ⟨_,rfl,"dict_keyiterator", _,⟨_,Nm _ rfl,rfl⟩,ON.lookup,?_⟩))))))))
  assumption) (F.args_dict_iter_1 _))
theorem AZ (hi:s.heap.IsKeyIter it d i es.size ep) (x:mM s.heap d es ep) (lt)
  (hQ:∀h',h'.IsKeyIter it d (i+1) es.size ep->PF it s.heap h'->Q (some es[i].key) { s with heap:=h' }):wpAny (model prog w) A (pyNext (.ref it)) Q E s:=by
 obtain⟨p,p1,p2,p3⟩:=id hi
 obtain⟨q,a,_,c⟩:=id x
 have own:Oo.Dict_items.ownsTuple "dict_keyiterator" = false:=by decide
 refine gV (So (OP hi.typeIs ON (OE ON hi.typeIs F.entry_dict_keyiterator_next ?_ (F.args_dict_keyiterator_next_1 _))))
 refine gV (k5 (gV (gV ?_)))
 refine gV (O2 hi.typeIs (k5 (gV (wpAny_fieldsOf p1 p3 ?_))))
 simp only[if_false];show wpAny _ _ (if (Oj d == OI)=true then _ else _) _ _ s
 rw[if_neg (show ¬ ((Oj d == OI)=true) from NK)];refine gV (k5 (gV (RI a c ?_)))
 rw[if_neg (by simp)];refine gV (k5 (gV (R0 a c ?_)));rw[if_neg (by simp)];refine k5 ?_
 simp only[P2,Pn lt];refine gV ?_
 refine gV (O2 hi.typeIs (k5 (gV (wpAny_isOneOf_keyiter hi.typeIs ?_))))
 show wpAny _ _ (setField (.ref it) 1 (rawInt ((i:Int)+1)) >>= _) _ _ s;refine gV (RB p1 p3 (by simp) ?_)
 have hi':(s.heap.update it (Obj.mapFields (·.setIfInBounds 1 (rawInt ((i:Int)+1))))).IsKeyIter it d (i+1) es.size ep:=⟨_,PV _ p1 (Obj.isFreed_of_fields (Qv p3 _)),(Obj.cls_mapFields ..).trans p2,by rw[Qv p3];rfl⟩
 refine gV (Oe (gV (wpAny_isOneOf_keyiter (s:={ s with heap:=s.heap.update it (Obj.mapFields (·.setIfInBounds 1 (rawInt ((i:Int)+1)))) }) hi'.typeIs ?_)))
 show wpAny _ _ (pure es[i].key) _ _ _;exact k5 (k5 ⟨_,rfl,k5 (hQ _ hi' (OV ..))⟩)
theorem CN (hh:A.handled=none) (hi:s.heap.IsKeyIter it d i es.size ep) (x:mM s.heap d es ep) (ge:es.size<=i)
  (hQ:∀h',Heap.ExtBut it s.heap h'->Q none { s with heap:=h' }):wpAny (model prog w) A (pyNext (.ref it)) Q E s:=by
 obtain⟨p,p1,p2,p3⟩:=id hi
 obtain⟨q,a,_,c⟩:=id x
 have own:Oo.Dict_items.ownsTuple "dict_keyiterator" = false:=by decide
 refine gV (So (OP hi.typeIs ON (OE ON hi.typeIs F.entry_dict_keyiterator_next ?_ (F.args_dict_keyiterator_next_1 _))))
 refine gV (k5 (gV (gV ?_)))
 refine gV (O2 hi.typeIs (k5 (gV (wpAny_fieldsOf p1 p3 ?_))))
 simp only[if_false];show wpAny _ _ (if (Oj d == OI)=true then _ else _) _ _ s
 rw[if_neg (show ¬ ((Oj d == OI)=true) from NK)];refine gV (k5 (gV (RI a c ?_)))
 rw[if_neg (by simp)];refine gV (k5 (gV (R0 a c ?_)));rw[if_neg (by simp)];refine k5 ?_
 simp only[P2,QD ge];refine gV ?_
 refine gV (O2 hi.typeIs (k5 ?_))
 show wpAny _ _ (setField (.ref it) 0 .none >>= _) _ _ s;refine gV (RB p1 p3 (by simp) ?_)
 show wpAny _ _ (newExc (.type "StopIteration") [] >>= _) _ _ _;refine gV ?_
 refine gV (N_ (gV (m:=firstArgMember _ _) (Sg (a:=OI) (by rfl) (N_ ?_ (by size_fits)))) (by size_fits))
 simp only[raiseNew];refine gV (wpAny_handled ?_);rw[show A.in1.handled=none from hh]
 refine gV (k5 (wpAny_throw ?_));refine gV (wpAny_isInstance (T:="StopIteration") (b:=true) ⟨_,Nm _ rfl,rfl⟩ isSubtype_stop ?_)
 exact k5 (hQ _ (((OV ..).extBut.push _).push _))
theorem zu (hh:A.handled=none) (I) (ne:d≠I):Tf prog w A I [I,d] [I] es.size (fun j v=>∃e,es[j]?=some e/\v=e.key) (fun j h=>h.IsKeyIter I d j es.size ep/\mM h d es ep) where
 sub:=fun b hb=>by simp_all
 frame:=fun _ _ _ st hk=>⟨st.1.at fun o e=>hk I (by simp) o e,st.2.keep fun o e=>hk d (by simp) o e⟩
 item:=fun j s Q E hj st hQ=>AZ st.1 st.2 hj fun h' a b=>hQ _ h' s.toks ⟨_,Pn hj,rfl⟩ ⟨a,st.2.keep fun o e=>b.extBut d o ne e⟩ fun c o hc e=>b.extBut c o (fun z=>hc (by simp[z])) e
 done:=fun s Q E st hQ=>CN hh st.1 st.2 (Ni _) fun h' a=>hQ h' s.toks fun c o hc e=>a c o (fun z=>hc (by simp[z])) e
 self:=fun _ _ _ _ st hQ=>wpAny_pyIter_keyiter st.1 hQ
theorem DO (lo:(d == sysModules)=false):PySem.W.KdlSrc prog w "dict" d d es.size (fun j v=>∃e,es[j]?=some e/\v=e.key) (fun h=>mM h d es ep) where
 type:=fun _ x=>x.typeIs
 there:=fun _ x=>⟨x.lt,x.lt⟩
 keep:=fun _ _ x k=>x.keep fun o e=>k d (.inl rfl) o e
 notList:=by decide
 notTuple:=by decide
 hint:=fun _ _ _ _ x hq=>PySem.W.kdl_hint_dict x.typeIs hq
 iter:=fun _ _ hh x=>⟨_,_,(fun _ _ hq=>Cp lo x hq),zu hh _ (NA x.lt),⟨⟨_,Nm _ rfl,rfl,rfl⟩,x.keep fun o e=>k3 _ e⟩⟩
end
theorem qh (hc:X.calm=true):bB X (.type "list") (fun xs H Q=>∃p kvs,xs=[.ref p]/\H p=some (.dT kvs)/\∀l bs,H l=none->Paired (fun(kv:List Key × V) b=>H b=some (.tup (kv.1.map kV))) kvs bs->Q (.ref l) (upd H l (.lst (bs.map V.ref)))):=by
 intro pins s σ H xs us Q I r h
 obtain⟨p,kvs,rfl,hp,q⟩:=h
 obtain⟨u,rfl,rx⟩:=vals1 r
 cases rx
 obtain⟨z,lo,ws,rel,ob,es,ep,h1,h2,h3,h4,h5⟩:=I.hok p _ hp
 have sz:es.size=ws.length:=by rw[<- Nu,h4,Nw]
 have zz:=rel.length
 refine PySem.W.kdl_call (DO lo) (I.ok.hd hc) ⟨ob,h1,h2,h3⟩ (by omega) fun h' tk acc c kp e hi=>?_
 have pb:Paired (fun(kv:List Key × V) b=>H b=some (.tup (kv.1.map kV))) kvs (ws.map fun x=>x.2.1):=by
  clear hi h5 h4 zz sz z q hp
  induction rel with
  | nil=>exact .nil
  | cons a _ ih=>exact .cons a.2.1 ih
 refine⟨.ref s.heap.objs.size,_,I.laid kp (Ni _) (show bK X.prog X.w _ h' _ (.lst _) from⟨?_,acc.toList,c,?_,by omega⟩),rfl,q _ _ (I.hok.fresh (Ni _)) pb⟩
 ·simp_all
 ·refine FE.ug _ _ (by rw[Nu,hi.1,Nw,Nw,sz]) fun j u hj=>?_
  obtain⟨en,e1,e2⟩:=hi.2 j u (by simp_all)
  rw[<- Nr,h4,NN] at e1
  cases ej:ws[j]? with
  | none=>simp_all
  | some y=>
   rw[ej] at e1
   cases e1
   refine⟨.ref y.2.1,by simp_all,?_⟩
   rw[e2];rfl
end L2
namespace L2.FE
open PySem PySem.Spec PyProof.Rows
noncomputable def unK:Key->D
 | .inl i=>.int i
 | .inr x=>.str x
noncomputable def tupK (k:List Key):D:=.tup (k.map unK)
noncomputable def jM (nl:NL):List D->Hh->R D:=fun ds h=>match ds with
 | [.ref n]=>match gc h n with
  | some kvs=>nl (kvs.map fun kv=>tupK kv.1) h
  | none=>.bad
 | _=>.bad
theorem sI {K:ab}{g:GG}{α:List Addr}{H:Hp}:∀k:List Key,au K g α H (k.map unK) (k.map kV)
 | []=>.nil
 | .inl i::r=>.cons (.int i) (sI r)
 | .inr x::r=>.cons (.str x) (sI r)
theorem uD {K:ab}{g:GG}{α:List Addr}{H:Hp}:∀{kvs:List (List Key × D)}{kws:List (List Key × V)}{bs:List Addr},PDT K g α H kvs kws->Paired (fun(kv:List Key × V) b=>H b=some (.tup (kv.1.map kV))) kws bs->au K g α H (kvs.map fun kv=>tupK kv.1) (bs.map V.ref)
 | _,_,_,.nil,.nil=>.nil
 | _,_,_,.cons c r,.cons a t=>.cons (.tup a (by rw[c.1];exact sI _)) (uD r t)
theorem Be {K:ab}{g:GG}{ε:EE}{nl:NL} [jj nl]:kl K g ε (jM nl) (fun xs H Q=>∃p kvs,xs=[.ref p]/\H p=some (.dT kvs)/\∀l bs,H l=none->Paired (fun(kv:List Key × V) b=>H b=some (.tup (kv.1.map kV))) kvs bs->g7 Q (.ref l) (upd H l (.lst (bs.map V.ref)))):=by
 intro α H h a x Q r ra w
 obtain⟨d,v,rfl,rfl,rd⟩:=jG (fun d _ _ _=>by cases d<;>rfl) (fun _=>rfl) ra w
 unfold jM at w
 cases rd with
 | @ref n p hp=>
  simp only at w
  cases e:gc h n with
  | none=>rw[e] at w;exact w.elim
  | some kvs=>
   rw[e] at w
   obtain⟨kws,hd,rs⟩:=r.dit e hp
   exact⟨p,kws,rfl,hd,fun l bs hl pb=>NL.post w r (uD rs pb) hl⟩
 | _=>exact w.elim
noncomputable def tL:D->D->D->Hh->R D:=fun o i x h=>match o,uJ i with
 | .ref n,some k=>match gc h n with
  | some kvs=>.ok ((tF kvs k).getD x) h
  | none=>.bad
 | _,_=>.bad
noncomputable def rl (mo mi mx:ME):ME:=fun env h=>(mo env h).bind fun o h1=>match o with
 | .ref n=>match gc h1 n with
  | some _=>(mi env h1).bind fun i h2=>(mx env h2).bind fun x h3=>tL o i x h3
  | none=>.bad
 | _=>.bad
section
variable {X:Cx}{g:GG}{ε:EE}{o e f:Expr}{mo me mf:ME}{apos cpos:Pos}
theorem BR (hu:X.A.units+1<cLine) (ho:PE X o (tM X.K g ε mo)) (he:PE X e (tM X.K g ε me)) (hf:PE X f (tM X.K g ε mf)) (m:M2 X o "get" apos e f cpos):PE X (.Call (.Attribute o "get" apos) [e,f] [] cpos) (tM X.K g ε (rl mo me mf)):=
 PE.imp (BV hu ho he hf m) fun σ H Q ⟨α,env,h,s,w⟩=>tM.use s w.bind fun d1 h1 v1 H1 α1 e1 s1 r1 w1=>by
  cases r1 with
  | @ref n p hp=>
   simp only at w1
   cases ed:gc h1 n with
   | none=>rw[ed] at w1;exact w1.elim
   | some kvs0=>
    rw[ed] at w1
    obtain⟨kws0,hd0,_⟩:=s1.heap.dit ed hp
    refine⟨p,rfl,.inr ⟨kws0,.inl hd0⟩,?_⟩
    refine tM.use s1 (w1.ext e1).bind fun d2 h2 v2 H2 α2 e2 s2 r2 w2=>tM.use s2 (w2.ext e2).bind fun d3 h3 v3 H3 α3 e3 s3 r3 w3=>?_
    unfold tL at w3
    cases ek:uJ d2 with
    | none=>rw[ek] at w3;exact w3.elim
    | some k=>
     rw[ek] at w3
     simp only at w3
     cases ed3:gc h3 n with
     | none=>rw[ed3] at w3;exact w3.elim
     | some kvs=>
      rw[ed3] at w3
      have hp3:=(e2.trans e3).toEx0.get hp
      obtain⟨kws,hd,rs⟩:=s3.heap.dit ed3 hp3
      obtain⟨b',rfl,eb⟩:=xx (r2.ext e3) ek
      refine⟨jQ kws k,sN.t hd eb,?_⟩
      have pp:=aO.ext (e1.trans (e2.trans e3)) (show aO X.K g α H Q _ h3 from w3)
      rcases rs.val k with⟨ev,ew⟩ | ⟨d,v,ev,ew,rv⟩
      ·rw[ev] at pp;rw[ew];exact aO.now pp s3.heap r3
      ·rw[ev] at pp;rw[ew];exact aO.now pp s3.heap rv
  | _=>exact w1.elim
end
end L2.FE
namespace L2.SM
open PySem PySem.W PyProof.Rows
noncomputable def rG:Bool->Keyed->Array Keyed->Nat->Nat->Nat->StateT SortSt Sem (Option Nat):=sortPriv% PySem.Builtin.gallop
noncomputable def BY:Array Keyed->Array Keyed->StateT SortSt Sem (Array Keyed):=sortPriv% PySem.Builtin.mergeLo
noncomputable def Aq:Array Keyed->Array Keyed->StateT SortSt Sem (Array Keyed):=sortPriv% PySem.Builtin.mergeHi
section
variable {prog:NC}{w:N4}{A:N1}{E:Ng->Nk->Prop}{s:Nk}
noncomputable def Gv (prog:NC) (w:N4) (A:N1) (E:Ng->Nk->Prop) (s:Nk){α:Type} (m:StateT NF Sem α) (st:NF) (Q:α->NF->Prop):Prop:=
 kasC (model prog w) A E m (fun a st' s'=>s'=s/\Q a st') st s
theorem Gv.pure {Q:α->NF->Prop}{st:NF} (h:Q a st):Gv prog w A E s (Pure.pure a:StateT NF Sem α) st Q:=kasC_pure ⟨rfl,h⟩
theorem Gv.bind {f:α->StateT NF Sem β}{st:NF} (h:Gv prog w A E s m st fun a st'=>Gv prog w A E s (f a) st' Q):Gv prog w A E s (m >>= f) st Q:=by
 refine kasC_bind (Ov h (fun r s' h'=>?_) fun _ _ e=>e)
 obtain⟨e,h'⟩:=h'
 subst e
 exact h'
theorem Gv.mono {st:NF} (h:Gv prog w A E s m st Q) (q:∀a st',Q a st'->Q' a st'):Gv prog w A E s m st Q':=Ov h (fun r s' h'=>⟨h'.1,q _ _ h'.2⟩) fun _ _ e=>e
theorem Gv.get {st:NF} (h:Q st st):Gv prog w A E s (MonadState.get:StateT NF Sem NF) st Q:=kasC_get ⟨rfl,h⟩
theorem Gv.set {st st':NF} (h:Q ⟨⟩ st'):Gv prog w A E s (MonadState.set st':StateT NF Sem PUnit) st Q:=by
 exact k5 ⟨rfl,h⟩
theorem Gv.modify {st:NF} (h:Q ⟨⟩ (f st)):Gv prog w A E s (_root_.modify f:StateT NF Sem PUnit) st Q:=kasC_modify ⟨rfl,h⟩
theorem Gv.lift {Q:α->NF->Prop}{st:NF} (h:wpAny (model prog w) A m (fun a s'=>s'=s/\Q a st) E s):Gv prog w A E s (liftM m:StateT NF Sem α) st Q:=kasC_lift h
theorem Gv.rule {id:String}{st:NF} (h:Q () st):Gv prog w A E s (liftM (PySem.rule id):StateT NF Sem Unit) st Q:=Gv.lift (R4 ⟨rfl,h⟩)
theorem yS {β:Type}{f:Nat->β->StateT NF Sem (ForInStep β)} (I:Nat->β->NF->Prop) (D:β->NF->Prop)
  (step:∀x n b st,I (n+1) b st->Gv prog w A E s (f x b) st fun r st'=>match r with | .done b'=>D b' st' | .yield b'=>I n b' st')
  (fin:∀b st,I 0 b st->D b st):∀(l:List Nat) (b:β) (st:NF),I l.length b st->Gv prog w A E s (forIn l b f) st D
 | [],b,st,h=>kasC_nil ⟨rfl,fin b st h⟩
 | x::l,b,st,h=>by
  have ih:=yS I D step fin l
  refine kasC_cons (Ov (step x l.length b st h) (fun r s' h'=>?_) fun _ _ e=>e)
  obtain⟨e,h'⟩:=h'
  subst e
  revert h'
  cases r.1 with
  | done b'=>simp
  | yield b'=>intro h';exact ih b' r.2 h'
theorem Gv.range {st:NF} (I:Nat->β->NF->Prop) (h0:I (b - a) c st)
  (step:∀x n b st,I (n+1) b st->Gv prog w A E s (f x b) st fun r st'=>match r with | .done b'=>Q b' st' | .yield b'=>I n b' st')
  (fin:∀b st,I 0 b st->Q b st):Gv prog w A E s (forIn [a:b] c f) st Q:=
 kasC_range (yS I Q step fin _ _ _ (by simp_all))
theorem Gv.elem {st:NF} (e:arr[i]?=some x) (h:Q x st):Gv prog w A E s (elem' arr i) st Q:=by
 rw[elem'_eq,e];exact Gv.pure h
theorem Gv.lt {st:NF} (hc:∀C:Bool->Nk->Prop,C c s->wpAny (model prog w) A (keyLt' (kindOf st) x.1 y.1) C (fun _ _=>False) s) (h:Q (some c) st):Gv prog w A E s (lt' x y) st Q:=by
 refine Gv.bind (Gv.get ?_)
 refine Gv.bind (Gv.lift (So (Ov (hc (fun c' s'=>c'=c/\s'=s) ⟨rfl,rfl⟩) (fun c' s' hc'=>?_) fun _ _ hF=>hF.elim)))
 obtain⟨rfl,rfl⟩:=hc'
 exact⟨rfl,Gv.pure h⟩
end
section
variable {prog:NC}{w:N4}{A:N1}{E:Ng->Nk->Prop}{s:Nk}{κ:Qy}{P:N3->Prop}{kk:N3->Int}
noncomputable def Cmp (prog:NC) (w:N4) (A:N1) (s:Nk) (κ:Qy) (P:N3->Prop) (kk:N3->Int):Prop:=∀x y,P x->P y->∀C:Bool->Nk->Prop,C (decide (kk x<kk y)) s->wpAny (model prog w) A (keyLt' κ x.1 y.1) C (fun _ _=>False) s
theorem Gv.ltC {st:NF} (c:Cmp prog w A s κ P kk) (hx:P x) (hy:P y) (hk:kindOf st=κ) (h:Q (some (decide (kk x<kk y))) st):Gv prog w A E s (lt' x y) st Q:=by
 subst hk
 exact Gv.lt (c x y hx hy) h
noncomputable def kAt (kk:N3->Int) (a:Array N3) (i:Nat):Int:=((a[i]?).map kk).getD 0
theorem B7 {a:Array N3}{i:Nat}{x:N3} (e:a[i]?=some x):kAt kk a i=kk x:=by unfold kAt;rw[e];rfl
noncomputable def bey (kk:N3->Int) (left:Bool) (key:N3) (arr:Array N3) (base i:Nat):Bool:=if left then decide (kAt kk arr (base+i)<kk key) else !decide (kk key<kAt kk arr (base+i))
theorem G1 {st:NF} (c:Cmp prog w A s κ P kk) (ha:∀x∈arr,P x) (hy:P key) (hk:kindOf st=κ) (hi:base+i<arr.size)
  (h:Q (some (bey kk left key arr base i)) st):Gv prog w A E s (do
   let x ← elem' arr (base+i)
   if left=true then lt' x key else do
    let r ← lt' key x
    pure (r.map (!·))) st Q:=by
 have e:arr[base+i]?=some arr[base+i]:=by simp[hi]
 have hp:=ha _ (NO hi)
 have hv:=B7 (kk:=kk) e
 unfold bey at h
 rw[hv] at h
 refine Gv.bind (Gv.elem e ?_)
 cases left with
 | true=>exact Gv.ltC c hp hy hk h
 | false=>exact Gv.bind (Gv.ltC c hy hp hk (Gv.pure h))
theorem rg {st:NF} (c:Cmp prog w A s κ P kk) (ha:∀x∈arr,P x) (hy:P key) (hk:kindOf st=κ) (hn:base+n<=arr.size) (hh:hint<n)
  (mo:∀i j,i<=j->j<n->bey kk left key arr base j=true->bey kk left key arr base i=true)
  (h:∀k,k<=n->(∀i,i<k->bey kk left key arr base i=true)->(∀i,k<=i->i<n->bey kk left key arr base i=false)->Q (some k) st):Gv prog w A E s (rG left key arr base n hint) st Q:=by
 have B:∀{i:Nat} {Q:Option Bool->NF->Prop},i<n->Q (some (bey kk left key arr base i)) st->Gv prog w A E s (do
   let x ← elem' arr (base+i)
   if left=true then lt' x key else do
    let r ← lt' key x
    pure (r.map (!·))) st Q:=fun{i Q} hi h=>G1 c ha hy hk (by lia) h
 have mo':∀i j,i<=j->j<n->bey kk left key arr base i=false->bey kk left key arr base j=false:=fun i j hij hj e=>by
  grind
 generalize bey kk left key arr base=b at *
 -- the last loop
 have L3:∀lo hi,lo<=hi->hi<=n->(∀i,i<lo->b i=true)->(∀i,hi<=i->i<n->b i=false)->∀{f:Nat->Option (Option Nat) × Nat × Nat->StateT NF Sem (ForInStep (Option (Option Nat) × Nat × Nat))} {R:Option (Option Nat) × Nat × Nat->NF->Prop},
   (∀x lo hi R,lo ≥ hi->R (.done (none,lo,hi)) st->Gv prog w A E s (f x (none,lo,hi)) st R) →
   (∀x lo hi R,lo<hi->hi<=n->R (if b (lo+(hi - lo) / 2)=true then .yield (none,lo+(hi - lo) / 2+1,hi) else .yield (none,lo,lo+(hi - lo) / 2)) st->Gv prog w A E s (f x (none,lo,hi)) st R) →
   (∀k lo,k<=n->(∀i,i<k->b i=true)->(∀i,k<=i->i<n->b i=false)->R (none,lo,k) st) →
   Gv prog w A E s (forIn [:n] (none,lo,hi) f) st R:=by
  intro lo hi h1 h2 h3 h4 f R f1 f2 hR
  refine Gv.range (fun m z st'=>st'=st/\∃lo hi,z=(none,lo,hi)/\lo<=hi/\hi<=n/\hi - lo<=m/\(∀i,i<lo->b i=true)/\(∀i,hi<=i->i<n->b i=false)) ⟨rfl,lo,hi,rfl,h1,h2,by lia,h3,h4⟩ (fun x m z st' hz=>?_) (fun z st' hz=>?_)
  ·obtain⟨rfl,lo,hi,rfl,g1,g2,g3,g4,g5⟩:=hz
   by_cases hl:lo ≥ hi
   ·refine f1 x lo hi _ hl ?_
    have:lo=hi:=by lia
    simp_all
   ·refine f2 x lo hi _ (by lia) g2 ?_
    cases e:b (lo+(hi - lo) / 2) with
    | true=>
     rw[if_pos rfl]
     refine⟨rfl,_,_,rfl,by lia,g2,by lia,fun i hi'=>?_,g5⟩
     grind
    | false=>
     rw[if_neg (by decide)]
     refine⟨rfl,_,_,rfl,by lia,by lia,by lia,g4,fun i hi' hn'=>?_⟩
     grind
  ·obtain⟨rfl,lo,hi,rfl,g1,g2,g3,g4,g5⟩:=hz
   have:lo=hi:=by lia
   simp_all
 with_unfolding_all refine Gv.bind ?_
 refine B hh ?_
 dsimp only
 cases e0:b hint with
 | true=>
  rw[if_pos rfl]
  refine Gv.bind (Gv.mono (Q:=fun z st'=>st'=st/\∃la ofs,z=(none,la,ofs)/\la<ofs/\hint+la<n/\b (hint+la)=true/\(n - hint<=ofs\/(ofs<n - hint/\b (hint+ofs)=false))) (Gv.range (fun m z st'=>st'=st/\∃la ofs,z=(none,la,ofs)/\la<ofs/\n+1<=ofs+m/\hint+la<n/\b (hint+la)=true) ⟨rfl,0,1,rfl,by lia,by lia,by lia,e0⟩ (fun x m z st' hz=>?_) (fun z st' hz=>?_)) (fun z st' hz=>?_))
  ·obtain⟨rfl,la,ofs,rfl,g1,g2,g3,g4⟩:=hz
   dsimp only
   by_cases hl:ofs ≥ n - hint
   ·rw[if_pos hl]
    exact Gv.pure ⟨rfl,la,ofs,rfl,g1,g3,g4,.inl hl⟩
   ·rw[if_neg hl]
    refine Gv.bind (B (by lia) ?_)
    dsimp only
    cases e:b (hint+ofs) with
    | true=>exact Gv.pure ⟨rfl,ofs,2*ofs+1,rfl,by lia,by lia,by lia,e⟩
    | false=>exact Gv.pure ⟨rfl,la,ofs,rfl,g1,g3,g4,.inr ⟨by lia,e⟩⟩
  ·obtain⟨rfl,la,ofs,rfl,g1,g2,g3,g4⟩:=hz
   grind
  ·obtain⟨rfl,la,ofs,rfl,g1,g3,g4,g5⟩:=hz
   dsimp only
   refine Gv.bind (L3 (hint+la+1) (hint+min ofs (n - hint)) ?_ ?_ ?_ ?_ (fun x lo hi R hl hR=>?_) (fun x lo hi R hl hn' hR=>?_) fun k lo g1 g2 g3=>Gv.pure (h k g1 g2 g3))
   ·lia
   ·lia
   ·grind
   ·grind
   ·dsimp only;rw[if_pos hl];exact Gv.pure hR
   ·dsimp only;rw[if_neg (by lia)]
    refine Gv.bind (B (by lia) ?_)
    dsimp only
    cases e:b (lo+(hi - lo) / 2) with
    | true=>rw[e,if_pos rfl] at hR;exact Gv.pure hR
    | false=>rw[e,if_neg (by decide)] at hR;exact Gv.pure hR
 | false=>
  rw[if_neg (by decide)]
  refine Gv.bind (Gv.mono (Q:=fun z st'=>st'=st/\∃la ofs,z=(none,la,ofs)/\la<ofs/\la<=hint/\b (hint - la)=false/\(hint+1<=ofs\/(ofs<hint+1/\b (hint - ofs)=true))) (Gv.range (fun m z st'=>st'=st/\∃la ofs,z=(none,la,ofs)/\la<ofs/\n+1<=ofs+m/\la<=hint/\b (hint - la)=false) ⟨rfl,0,1,rfl,by lia,by lia,by lia,e0⟩ (fun x m z st' hz=>?_) (fun z st' hz=>?_)) (fun z st' hz=>?_))
  ·obtain⟨rfl,la,ofs,rfl,g1,g2,g3,g4⟩:=hz
   dsimp only
   by_cases hl:ofs ≥ hint+1
   ·rw[if_pos hl]
    exact Gv.pure ⟨rfl,la,ofs,rfl,g1,g3,g4,.inl hl⟩
   ·rw[if_neg hl]
    refine Gv.bind (B (by lia) ?_)
    dsimp only
    cases e:b (hint - ofs) with
    | true=>exact Gv.pure ⟨rfl,la,ofs,rfl,g1,g3,g4,.inr ⟨by lia,e⟩⟩
    | false=>exact Gv.pure ⟨rfl,ofs,2*ofs+1,rfl,by lia,by lia,by lia,e⟩
  ·obtain⟨rfl,la,ofs,rfl,g1,g2,g3,g4⟩:=hz
   grind
  ·obtain⟨rfl,la,ofs,rfl,g1,g3,g4,g5⟩:=hz
   dsimp only
   refine Gv.bind (L3 (hint+1 - min ofs (hint+1)) (hint - la) ?_ ?_ ?_ ?_ (fun x lo hi R hl hR=>?_) (fun x lo hi R hl hn' hR=>?_) fun k lo g1 g2 g3=>Gv.pure (h k g1 g2 g3))
   ·lia
   ·lia
   ·grind
   ·grind
   ·dsimp only;rw[if_pos hl];exact Gv.pure hR
   ·dsimp only;rw[if_neg (by lia)]
    refine Gv.bind (B (by lia) ?_)
    dsimp only
    cases e:b (lo+(hi - lo) / 2) with
    | true=>rw[e,if_pos rfl] at hR;exact Gv.pure hR
    | false=>rw[e,if_neg (by decide)] at hR;exact Gv.pure hR
end
section
variable {kk:N3->Int}{a b out:Array N3}{ia ib:Nat}
noncomputable def Srt (kk:N3->Int) (l:List N3):Prop:=l.Pairwise fun x y=>kk x<kk y
structure Mg (kk) (a b out:Array N3) (ia ib):Prop where
 perm:out.toList.Perm (a.toList.take ia++b.toList.take ib)
 srt:Srt kk out.toList
 la:∀x∈out.toList,∀y∈a.toList.drop ia,kk x<kk y
 lb:∀x∈out.toList,∀y∈b.toList.drop ib,kk x<kk y
theorem Mg.symm (m:Mg kk a b out ia ib):Mg kk b a out ib ia:=⟨m.perm.trans List.perm_append_comm,m.srt,m.lb,m.la⟩
theorem Mg.zero:Mg kk a b #[] 0 0:=⟨by simp,QI,fun x hx=>by grind,fun x hx=>by grind⟩
theorem As {l:List N3}{h:j<l.length} (hij:i<=j):l[j]∈l.drop i:=by
 have e:l[j]=(l.drop i)[j - i]'(by grind):=by simp_all
 grind
theorem uZ (s:Srt kk l) (h):∀y∈l.drop (j+1),kk l[j]<kk y:=by
 have e:=OB h
 have s2:Srt kk (l.drop j):=Rb.sublist (List.drop_sublist _ _) s
 rw[e] at s2
 exact fun y hy=>(NZ.mp s2).1 y hy
theorem Mg.jk (m:Mg kk a b out ia ib) (sb:Srt kk b.toList) (hi) (hd:∀y∈a.toList.drop ia,kk b[ib]<kk y):Mg kk a b (out.push b[ib]) ia (ib+1):=by
 have hl:ib<b.toList.length:=by omega
 have eb:b.toList[ib]=b[ib]:=by simp
 have bm:b[ib]∈b.toList.drop ib:=by rw[<- eb];exact As (Ni _)
 have es:(out.push b[ib]).toList=out.toList++[b[ib]]:=by simp
 refine⟨?_,?_,?_,?_⟩
 ·rw[es,List.take_succ_eq_append_getElem hl,<- Ow]
  exact m.perm.append_right _
 ·rw[es]
  exact NR.mpr ⟨m.srt,O7 _ _,fun x hx y hy=>by rw[Nz] at hy;subst hy;exact m.lb x hx _ bm⟩
 ·intro x hx y hy
  rw[es] at hx
  rcases N9.mp hx with hx | hx
  ·exact m.la x hx y hy
  simp_all
 ·intro x hx y hy
  rw[es] at hx
  rcases N9.mp hx with hx | hx
  ·exact m.lb x hx y (by rw[<- Qe] at hy;grind)
  ·rw[Nz] at hx;subst hx
   have:=uZ sb hl y hy
   simp_all
theorem Mg.l0 (m:Mg kk a b out ia ib) (sa:Srt kk a.toList) (hi) (hd:∀y∈b.toList.drop ib,kk a[ia]<kk y):Mg kk a b (out.push a[ia]) (ia+1) ib:=(m.symm.jk sa hi hd).symm
theorem Mg.fU (m:Mg kk a b out ia ib) (sb:Srt kk b.toList):∀(k:Nat),ib+k<=b.size->(∀j,(hj:j<b.size)->ib<=j->j<ib+k->∀y∈a.toList.drop ia,kk b[j]<kk y)->Mg kk a b (out++b.extract ib (ib+k)) ia (ib+k)
 | 0,_,_=>by
  have e:b.extract ib (ib+0) = #[]:=by simp;lia
  rw[e];simpa using m
 | k+1,hk,hd=>by
  have ih:=Mg.fU m sb k (by lia) (fun j hj h1 h2=>hd j hj h1 (by lia))
  have e:out++b.extract ib (ib+(k+1))=(out++b.extract ib (ib+k)).push b[ib+k]:=by
   rw[<- Array.append_push]
   congr 1
   rw[Array.push_extract_getElem (by lia) ]
   congr 1
   lia
  rw[e]
  exact ih.jk sb (by lia) (hd (ib+k) (by lia) (by lia) (by lia))
theorem Mg.lH (m:Mg kk a b out ia ib) (sa:Srt kk a.toList) (k) (hk:ia+k<=a.size) (hd:∀j,(hj:j<a.size)->ia<=j->j<ia+k->∀y∈b.toList.drop ib,kk a[j]<kk y):Mg kk a b (out++a.extract ia (ia+k)) (ia+k) ib:=(m.symm.fU sa k hk hd).symm
noncomputable def gm (kk:N3->Int) (a b r:Array N3):Prop:=r.toList.Perm (a.toList++b.toList)/\Srt kk r.toList
theorem Mg.fin (m:Mg kk a b out a.size b.size):gm kk a b out:=⟨by have:=m.perm;rwa [N2 (by simp),N2 (by simp)] at this,m.srt⟩
theorem Mg.l9 (m:Mg kk a b out ia b.size) (sa:Srt kk a.toList) (hi:ia<=a.size):gm kk a b (out++a.extract ia a.size++b.extract b.size b.size):=by
 have e:b.extract b.size b.size = #[]:=by simp
 rw[e]
 have:=m.lH sa (a.size - ia) (by lia) (fun j hj _ _ y hy=>by rw[QE (by simp)] at hy;cases hy)
 rw[show ia+(a.size - ia)=a.size by lia] at this
 exact this.fin
theorem Mg.kC (m:Mg kk a b out a.size ib) (sb:Srt kk b.toList) (hi:ib<=b.size):gm kk a b (out++a.extract a.size a.size++b.extract ib b.size):=by
 have e:a.extract a.size a.size = #[]:=by simp
 rw[e]
 have:=m.fU sb (b.size - ib) (by lia) (fun j hj _ _ y hy=>by rw[QE (by simp)] at hy;cases hy)
 rw[show ib+(b.size - ib)=b.size by lia] at this
 exact this.fin
theorem Mg.last (m:Mg kk a b out ia ib) (sa:Srt kk a.toList) (sb:Srt kk b.toList) (hi:ia+1=a.size) (hb:ib<=b.size) (hd:∀y∈b.toList,kk y<kk a[ia]):gm kk a b (out++b.extract ib b.size++a.extract ia a.size):=by
 have hla:a.toList.drop ia=[a[ia]]:=by
  have hl:ia<a.toList.length:=by simp;lia
  rw[OB hl]
  have:a.toList.drop (ia+1)=[]:=by rw[List.drop_eq_nil_iff];simp;lia
  rw[this];simp
 have m1:=m.fU sb (b.size - ib) (by lia) (fun j hj _ _ y hy=>by
  rw[hla,Nz] at hy;subst hy
  exact hd _ (by simp))
 rw[show ib+(b.size - ib)=b.size by lia] at m1
 have m2:=m1.lH sa (a.size - ia) (by lia) (fun j hj _ _ y hy=>by rw[QE (by simp)] at hy;cases hy)
 rw[show ia+(a.size - ia)=a.size by lia] at m2
 exact m2.fin
theorem heads (sa:Srt kk a.toList) (hi) (hv:v<kk a[ia]):∀y∈a.toList.drop ia,v<kk y:=by
 have hl:ia<a.toList.length:=by omega
 intro y hy
 rw[OB hl] at hy
 rcases Nx.mp hy with rfl | hy
 ·simp_all
 ·have:=uZ sa hl y hy
  grind
theorem nQ (sa:Srt kk a.toList) (hij:i<j) (hj:j<a.size):kk a[i]<kk a[j]:=by
 have:=NI.mp sa i j (by grind) (by omega) hij
 simp_all
theorem yb (h):kAt kk a i=kk a[i]:=B7 (by simp[h])
end
section
variable {prog:NC}{w:N4}{A:N1}{E:Ng->Nk->Prop}{s:Nk}{κ:Qy}{P:N3->Prop}{kk:N3->Int}{α:Type}{st:NF}{Q:α->NF->Prop}
theorem bC [Decidable c]{x y:StateT NF Sem α} (h1:c->Gv prog w A E s x st Q) (h2:¬ c->Gv prog w A E s y st Q):Gv prog w A E s (if c then x else y) st Q:=by
 grind
structure dQ (st st':NF):Prop where
 kind:kindOf st'=kindOf st
 arr:arrOf st'=arrOf st
 pend:pendingOf st'=pendingOf st
 fail:failedOf st'=failedOf st
theorem dQ.refl:dQ st st:=⟨rfl,rfl,rfl,rfl⟩
theorem dQ.trans (h:dQ a b) (g:dQ b c):dQ a c:=⟨g.1.trans h.1,g.2.trans h.2,g.3.trans h.3,g.4.trans h.4⟩
end
section
variable {prog:NC}{w:N4}{A:N1}{E:Ng->Nk->Prop}{s:Nk}{κ:Qy}{P:N3->Prop}{kk:N3->Int}
structure Two (P:N3->Prop) (kk) (a b:Array N3):Prop where
 pa:∀x∈a,P x
 pb:∀x∈b,P x
 sa:Srt kk a.toList
 sb:Srt kk b.toList
 dj:∀x∈a.toList,∀y∈b.toList,kk x≠kk y
theorem Two.ne (t:Two P kk a b) (hi:i<a.size) (hj:j<b.size):kk a[i]≠kk b[j]:=t.dj _ (by simp) _ (by simp)
theorem r9 {st:NF} (c:Cmp prog w A s κ P kk) (pa:∀x∈a,P x) (hy:P key) (hk:kindOf st=κ) (hn:i+n<=a.size) (hh:hint<n)
  (sa:∀j m,(hm:m<a.size)->i<=j->(hj:j<m)->m<i+n->kk (a[j]'(by lia))<kk a[m]) (nk:∀j,(hj:j<a.size)->i<=j->j<i+n->kk a[j]≠kk key)
  (h:∀k,k<=n->(∀j,(hj:j<a.size)->i<=j->j<i+k->kk a[j]<kk key)->(∀j,(hj:j<a.size)->i+k<=j->j<i+n->kk key<kk a[j])->Q (some k) st):Gv prog w A E s (rG false key a i n hint) st Q:=by
 have bv:∀m,(hm:i+m<a.size)->m<n->bey kk false key a i m=decide (kk a[i+m]<kk key):=fun m hm hmn=>by
  unfold bey
  rw[yb hm]
  grind
 refine rg c pa hy hk hn hh (fun m n hmn hn' e=>?_) (fun k hk1 e1 e2=>?_)
 ·rw[bv n (by lia) (by lia),decide_eq_true_eq] at e
  rw[bv m (by lia) (by lia),decide_eq_true_eq]
  rcases OR hmn with z | z
  ·have:=sa (i+m) (i+n) (by lia) (by lia) (by lia) (by lia);lia
  simp_all
 ·refine h k hk1 (fun j hj h1 h2=>?_) (fun j hj h1 h2=>?_)
  ·have:=e1 (j - i) (by lia)
   rw[bv (j - i) (by lia) (by lia),decide_eq_true_eq] at this
   simp_all
  ·have:=e2 (j - i) (by lia) (by lia)
   rw[bv (j - i) (by lia) (by lia),decide_eq_false_iff_not] at this
   have ne:=nk j hj (by lia) h2
   have:¬ kk a[j]<kk key:=by simpa [show i+(j - i)=j by lia] using this
   lia
theorem tJ {st:NF} (c:Cmp prog w A s κ P kk) (pa:∀x∈a,P x) (hy:P key) (hk:kindOf st=κ) (hn:i+n<=a.size) (hh:hint<n)
  (sa:∀j m,(hm:m<a.size)->i<=j->(hj:j<m)->m<i+n->kk (a[j]'(by lia))<kk a[m])
  (h:∀k,k<=n->(∀j,(hj:j<a.size)->i<=j->j<i+k->kk a[j]<kk key)->(∀j,(hj:j<a.size)->i+k<=j->j<i+n->¬ kk a[j]<kk key)->Q (some k) st):Gv prog w A E s (rG true key a i n hint) st Q:=by
 have bv:∀m,(hm:i+m<a.size)->bey kk true key a i m=decide (kk a[i+m]<kk key):=fun m hm=>by
  unfold bey
  rw[yb hm];rfl
 refine rg c pa hy hk hn hh (fun m n hmn hn' e=>?_) (fun k hk1 e1 e2=>?_)
 ·rw[bv n (by lia),decide_eq_true_eq] at e
  rw[bv m (by lia),decide_eq_true_eq]
  rcases OR hmn with z | z
  ·have:=sa (i+m) (i+n) (by lia) (by lia) (by lia) (by lia);lia
  simp_all
 ·refine h k hk1 (fun j hj h1 h2=>?_) (fun j hj h1 h2=>?_)
  ·have:=e1 (j - i) (by lia)
   simp_all
  ·have:=e2 (j - i) (by lia) (by lia)
   rw[bv (j - i) (by lia),decide_eq_false_iff_not] at this
   simpa [show i+(j - i)=j by lia] using this
end
section
variable {prog:NC}{w:N4}{A:N1}{E:Ng->Nk->Prop}{s:Nk}{κ:Qy}{P:N3->Prop}{kk:N3->Int}
structure Mid (kk) (a b out) (ia ib):Prop where
 m:Mg kk a b out ia ib
 ha:ia+1<a.size
 hb:ib<b.size
theorem Gv.modS {st:NF} (hf:dQ st (f st)) (h:∀st',dQ st st'->Q ⟨⟩ st'):Gv prog w A E s (_root_.modify f:StateT NF Sem PUnit) st Q:=Gv.modify (h _ hf)
theorem A8 {c:Prop} [Decidable c]{x y:StateT NF Sem α}{st:NF}{Q:α->NF->Prop} (h:Gv prog w A E s x st Q/\Gv prog w A E s y st Q):Gv prog w A E s (if c then x else y) st Q:=bC (fun _=>h.1) (fun _=>h.2)
theorem Hk {c:Prop} [Decidable c]{x y:StateT NF Sem α}{st:NF}{Q:α->NF->Prop} (h2:¬ c->Gv prog w A E s y st Q) (h1:c->Gv prog w A E s x st Q):Gv prog w A E s (if c then x else y) st Q:=bC h1 h2
theorem x_ {R:Array N3->Nat->StateT NF Sem α}{F:Array N3->Nat->Prop}{st:NF} (use:(∀o i,F o i->Gv prog w A E s (R o i) st Q)->Gv prog w A E s x st Q) (h:∀o i,F o i->Gv prog w A E s (R o i) st Q):Gv prog w A E s x st Q:=use h
theorem yP {P:Nat->Prop} (h:∀g,P g) (hy:(∀g,P g)->Y) (g):P g/\Y:=⟨h g,hy h⟩
theorem get_some {a:Array N3} (h:i<a.size):a[i]?=some a[i]:=by simp[h]
theorem wj {a b:Array N3}{st:NF}{Q:Array N3->NF->Prop} (c:Cmp prog w A s κ P kk) (t:Two P kk a b) (hk:kindOf st=κ) (ha:1<=a.size) (hb:1<=b.size) (h0:kk b[0]<kk a[0]) (hl:∀y∈b.toList,kk y<kk a[a.size - 1])
  (h:∀r st',gm kk a b r->dQ st st'->Q r st'):Gv prog w A E s (BY a b) st Q:=by
 have m1:Mg kk a b #[b[0]] 0 1:=by
  have:=(Mg.zero (kk:=kk) (a:=a) (b:=b)).jk t.sb (by lia) (heads t.sa (by lia) h0)
  simpa using this
 have lastOk:∀{out:Array N3} {ia ib:Nat},Mg kk a b out ia ib->ia+1=a.size->ib<=b.size->gm kk a b (out++b.extract ib b.size++a.extract ia a.size):=fun{out ia ib} m e hb'=>m.last t.sa t.sb e hb' (fun y hy=>by have:=hl y hy;simpa [show a.size - 1=ia by lia] using this)
 have l9:∀{out:Array N3} {ia ib:Nat},Mg kk a b out ia ib->ia<=a.size->ib=b.size->gm kk a b (out++a.extract ia a.size++b.extract ib b.size):=fun{out ia ib} m e hb'=>by subst hb';exact m.l9 t.sa e
 with_unfolding_all refine Gv.bind (Gv.rule ?_)
 dsimp only
 refine Gv.bind (Gv.elem (get_some (by lia)) ?_)
 refine bC (fun e=>Gv.pure (h _ _ (l9 m1 (by lia) (by simpa using e)) dQ.refl)) (fun e1=>?_)
 refine bC (fun e=>Gv.pure (h _ _ (lastOk m1 (by simpa using e) (by lia)) dQ.refl)) (fun e2=>?_)
 have z1:1<b.size:=by have:¬ 1=b.size:=by simpa using e1
                      lia
 have z2:1<a.size:=by have:¬ 0+1=a.size:=by simpa using e2
                      lia
 refine Gv.bind (Gv.get ?_)
 refine Gv.bind (Gv.mono (Q:=fun z st'=>dQ st st'/\∃r,z.1=some r/\gm kk a b r) (Gv.range (fun m z st'=>dQ st st'/\∃out ia ib mg,z=(none,out,ia,ib,mg)/\Mid kk a b out ia ib/\a.size+b.size<ia+ib+m) ⟨dQ.refl,_,_,_,_,rfl,⟨m1,by lia,by lia⟩,by lia⟩ (fun x m z st' hz=>?_) (fun z st' hz=>?_)) (fun z st' hz=>?_))
 ·obtain⟨sm,out,ia,ib,mg,rfl,md,pr⟩:=hz
  have hk':kindOf st'=κ:=sm.kind.trans hk
  dsimp only
  refine Gv.bind (Gv.mono (Q:=fun z st''=>dQ st st''/\((∃r o i j p q,z=(some r,o,i,j,p,q)/\gm kk a b r)\/∃o i j p q,z=(none,o,i,j,p,q)/\Mid kk a b o i j/\ia+ib<i+j)) (Gv.range (fun m' z st''=>dQ st st''/\∃o i j p q,z=(none,o,i,j,p,q)/\Mid kk a b o i j/\ia+ib<=i+j/\ia+ib+(a.size+b.size)<=i+j+m') ⟨sm,_,_,_,_,_,rfl,md,by lia,by lia⟩ (fun x m' z st'' hz=>?_) (fun z st'' hz=>?_)) (fun z st'' hz=>?_))
  ·obtain⟨sm2,o,i,j,p,q,rfl,md2,pr0,pr2⟩:=hz
   clear pr z1 z2 e1 e2 m1 h0 hl ha hb
   have hk2:kindOf st''=κ:=sm2.kind.trans hk
   have ha2:=md2.ha
   have hi:i<a.size:=by lia
   have hj:=md2.hb
   dsimp only
   refine Gv.bind (Gv.elem (get_some hj) ?_)
   refine Gv.bind (Gv.elem (get_some hi) ?_)
   refine Gv.bind (Gv.ltC c (t.pb _ (NO hj)) (t.pa _ (NO hi)) hk2 ?_)
   dsimp only
   by_cases lt:kk b[j]<kk a[i]
   ·rw[decide_eq_true lt,if_pos rfl]
    have m3:=md2.m.jk t.sb hj (heads t.sa hi lt)
    refine Gv.bind (Gv.elem (get_some hj) ?_)
    refine bC (fun e=>Gv.pure ⟨sm2,.inl ⟨_,_,_,_,_,_,rfl,l9 m3 (by lia) (by simpa using e)⟩⟩) (fun e=>?_)
    have e':¬ j+1=b.size:=by simpa using e
    exact bC (fun _=>Gv.pure ⟨sm2,.inr ⟨_,_,_,_,_,rfl,⟨m3,by lia,by lia⟩,by lia⟩⟩) (fun _=>Gv.pure ⟨sm2,_,_,_,_,_,rfl,⟨m3,by lia,by lia⟩,by lia,by lia⟩)
   ·have gt:kk a[i]<kk b[j]:=by have:=t.ne hi hj;lia
    rw[decide_eq_false lt,if_neg (by decide)]
    have m3:=md2.m.l0 t.sa hi (heads t.sb hj gt)
    refine Gv.bind (Gv.elem (get_some hi) ?_)
    refine bC (fun e=>Gv.pure ⟨sm2,.inl ⟨_,_,_,_,_,_,rfl,lastOk m3 (by simpa using e) (by lia)⟩⟩) (fun e=>?_)
    have e':¬ i+1+1=a.size:=by simpa using e
    exact bC (fun _=>Gv.pure ⟨sm2,.inr ⟨_,_,_,_,_,rfl,⟨m3,by lia,hj⟩,by lia⟩⟩) (fun _=>Gv.pure ⟨sm2,_,_,_,_,_,rfl,⟨m3,by lia,hj⟩,by lia,by lia⟩)
  ·obtain⟨sm2,o,i,j,p,q,rfl,md2,pr0,pr2⟩:=hz
   exact⟨sm2,.inr ⟨_,_,_,_,_,rfl,md2,by lia⟩⟩
  ·obtain⟨sm2,⟨r,o,i,j,p,q,rfl,fr⟩ | ⟨o,i,j,p,q,rfl,md2,pr2⟩⟩:=hz
   ·exact Gv.pure ⟨sm2,r,rfl,fr⟩
   ·dsimp only
    refine Gv.bind (Gv.rule ?_)
    refine Gv.bind (Gv.mono (Q:=fun z st4=>dQ st st4/\((∃r o i j g p q,z=(some r,o,i,j,g,p,q)/\gm kk a b r)\/∃o i j g p q,z=(none,o,i,j,g,p,q)/\Mid kk a b o i j/\ia+ib<i+j)) (Gv.range (fun m' z st4=>dQ st st4/\∃o i j g p q,z=(none,o,i,j,g,p,q)/\Mid kk a b o i j/\ia+ib<i+j) ⟨sm2,_,_,_,_,_,_,rfl,md2,pr2⟩ (fun x m' z st4 hz=>?_) (fun z st4 hz=>?_)) (fun z st4 hz=>?_))
    ·obtain⟨sm4,o,i,j,g,p,q,rfl,md4,pr4⟩:=hz
     clear pr pr2 md md2 z1 z2 e1 e2 m1 h0 hl ha hb
     have ha4:=md4.ha
     have hj:=md4.hb
     have hi:i<a.size:=by lia
     dsimp only
     refine A8 ?_
     generalize g - 1=g1
     revert g1
     refine yP (fun g'=>?_) (fun f=>f g)
     ·with_unfolding_all refine Gv.bind (Gv.modS ⟨rfl,rfl,rfl,rfl⟩ (fun st3 sm3'=>?_))
      have sm3:=sm4.trans sm3'
      have hk3:kindOf st3=κ:=sm3.kind.trans hk
      refine Gv.bind (Gv.elem (get_some hj) ?_)
      refine Gv.bind (r9 c t.pa (t.pb _ (NO hj)) hk3 (show i+(a.size - i)<=a.size by lia) (by lia) (fun p q hq _ hpq _=>nQ t.sa hpq hq) (fun p hp _ _=>t.ne hp hj) (fun k hk1 e1 e2=>?_))
      dsimp only
      apply x_ (F:=fun o' I=>Mg kk a b o' I j/\i<=I/\I+1<a.size/\∃hI:I<a.size,kk b[j]<kk a[I])
      ·intro key
       refine Hk (fun k0=>?_) (fun k0=>?_)
       ·generalize ho:o=o1
        generalize hi':i=i1
        refine key o1 i1 ?_
        subst ho hi'
        exact⟨md4.m,by lia,ha4,hi,e2 i hi (by lia) (by lia)⟩
       have m3:=md4.m.lH t.sa k (by lia) (fun p hp h1 h2=>heads t.sb hj (e1 p hp h1 h2))
       refine bC (fun e=>Gv.pure ⟨sm3,.inl ⟨_,_,_,_,_,_,_,rfl,lastOk m3 (by simpa using e) (by lia)⟩⟩) (fun ne1=>?_)
       refine bC (fun e=>?_) (fun ne2=>?_)
       ·have e':i+k=a.size:=by simpa using e
        have m3':=m3
        rw[e'] at m3'
        refine Gv.pure ⟨sm3,.inl ⟨_,_,_,_,_,_,_,rfl,?_⟩⟩
        rw[e']
        exact m3'.kC t.sb (by lia)
       ·have ne1':¬ i+k+1=a.size:=by simpa using ne1
        have ne2':¬ i+k=a.size:=by simpa using ne2
        have hI:i+k<a.size:=by lia
        have gtI:kk b[j]<kk a[i+k]:=e2 (i+k) hI (by lia) (by lia)
        exact key _ _ ⟨m3,by lia,by lia,hI,gtI⟩
      ·rintro o' I ⟨m3,iI,ha5,hI,gtI⟩
       refine Gv.bind (Gv.elem (get_some hj) ?_)
       have m4:=m3.jk t.sb hj (heads t.sa hI gtI)
       refine bC (fun e=>Gv.pure ⟨sm3,.inl ⟨_,_,_,_,_,_,_,rfl,l9 m4 (by lia) (by simpa using e)⟩⟩) (fun ne3=>?_)
       have ne3':¬ j+1=b.size:=by simpa using ne3
       refine Gv.bind (Gv.elem (get_some hI) ?_)
       refine Gv.bind (tJ c t.pb (t.pa _ (NO hI)) hk3 (show j+1+(b.size - (j+1))<=b.size by lia) (by lia) (fun p q hq _ hpq _=>nQ t.sb hpq hq) (fun k1 hk1 f1 f2=>?_))
       dsimp only
       by_cases k10:k1 > 0
       ·rw[if_pos k10]
        have m5:=m4.fU t.sb k1 (by lia) (fun q hq h1 h2=>heads t.sa hI (f1 q hq h1 h2))
        refine bC (fun e=>Gv.pure ⟨sm3,.inl ⟨_,_,_,_,_,_,_,rfl,l9 m5 (by lia) (by simpa using e)⟩⟩) (fun ne4=>?_)
        have ne4':¬ j+1+k1=b.size:=by simpa using ne4
        have hJ:j+1+k1<b.size:=by lia
        have ltJ:kk a[I]<kk b[j+1+k1]:=by have:=f2 _ hJ (by lia) (by lia);have:=t.ne hI hJ;lia
        refine Gv.bind (Gv.elem (get_some hI) ?_)
        have m6:=m5.l0 t.sa hI (heads t.sb hJ ltJ)
        refine bC (fun e=>Gv.pure ⟨sm3,.inl ⟨_,_,_,_,_,_,_,rfl,lastOk m6 (by simpa using e) (by lia)⟩⟩) (fun ne5=>?_)
        have ne5':¬ I+1+1=a.size:=by simpa using ne5
        exact bC (fun _=>Gv.pure ⟨sm3,.inr ⟨_,_,_,_,_,_,rfl,⟨m6,by lia,hJ⟩,by lia⟩⟩) (fun _=>Gv.pure ⟨sm3,_,_,_,_,_,_,rfl,⟨m6,by lia,hJ⟩,by lia⟩)
       ·rw[if_neg k10]
        have m5:=m4
        have hJ:j+1<b.size:=by lia
        have ltJ:kk a[I]<kk b[j+1]:=by have:=f2 _ hJ (by lia) (by lia);have:=t.ne hI hJ;lia
        refine Gv.bind (Gv.elem (get_some hI) ?_)
        have m6:=m5.l0 t.sa hI (heads t.sb hJ ltJ)
        refine bC (fun e=>Gv.pure ⟨sm3,.inl ⟨_,_,_,_,_,_,_,rfl,lastOk m6 (by simpa using e) (by lia)⟩⟩) (fun ne5=>?_)
        have ne5':¬ I+1+1=a.size:=by simpa using ne5
        exact bC (fun _=>Gv.pure ⟨sm3,.inr ⟨_,_,_,_,_,_,rfl,⟨m6,by lia,hJ⟩,by lia⟩⟩) (fun _=>Gv.pure ⟨sm3,_,_,_,_,_,_,rfl,⟨m6,by lia,hJ⟩,by lia⟩)
    ·obtain⟨sm4,o,i,j,g,p,q,rfl,md4,pr4⟩:=hz
     exact⟨sm4,.inr ⟨_,_,_,_,_,_,rfl,md4,pr4⟩⟩
    ·obtain⟨sm4,⟨r,o,i,j,g,p,q,rfl,fr⟩ | ⟨o,i,j,g,p,q,rfl,md4,pr4⟩⟩:=hz
     ·exact Gv.pure ⟨sm4,r,rfl,fr⟩
     ·dsimp only
      with_unfolding_all refine Gv.bind (Gv.modS ⟨rfl,rfl,rfl,rfl⟩ (fun st3 sm3'=>?_))
      exact Gv.pure ⟨sm4.trans sm3',_,_,_,_,rfl,md4,by lia⟩
 ·obtain⟨sm,out,ia,ib,mg,rfl,md,pr⟩:=hz
  have:=md.ha
  have:=md.hb
  lia
 ·obtain⟨sm,r,e,fr⟩:=hz
  rw[e]
  exact Gv.pure (h r st' fr sm)
end
section
variable {kk:N3->Int}{a b out:Array N3}{na nb:Nat}
structure Mh (kk:N3->Int) (a b out:Array N3) (na nb):Prop where
 perm:out.toList.Perm (a.toList.drop na++b.toList.drop nb)
 srt:out.toList.Pairwise fun x y=>kk y<kk x
 la:∀x∈out.toList,∀y∈a.toList.take na,kk y<kk x
 lb:∀x∈out.toList,∀y∈b.toList.take nb,kk y<kk x
theorem Mh.symm (m:Mh kk a b out na nb):Mh kk b a out nb na:=⟨m.perm.trans List.perm_append_comm,m.srt,m.lb,m.la⟩
theorem Mh.zero:Mh kk a b #[] a.size b.size:=⟨by simp,QI,fun x hx=>by grind,fun x hx=>by grind⟩
theorem yw {l:List N3} (h):l.take (n+1)=l.take n++[l[n]]:=List.take_succ_eq_append_getElem h
theorem Mh.jk (m:Mh kk a b out na (nb+1)) (sb:Srt kk b.toList) (hi) (hd:∀y∈a.toList.take na,kk y<kk b[nb]):Mh kk a b (out.push b[nb]) na nb:=by
 have hl:nb<b.toList.length:=by omega
 have eb:b.toList[nb]=b[nb]:=by simp
 have et:=yw hl
 have bm:b[nb]∈b.toList.take (nb+1):=by simp_all
 have es:(out.push b[nb]).toList=out.toList++[b[nb]]:=by simp
 refine⟨?_,?_,?_,?_⟩
 ·rw[es,OB hl]
  refine(P8 _ _).trans ?_
  refine QU.trans ?_ Q0.symm
  exact m.perm.cons _
 ·rw[es]
  exact NR.mpr ⟨m.srt,O7 _ _,fun x hx y hy=>by rw[Nz] at hy;subst hy;exact m.lb x hx _ bm⟩
 ·intro x hx y hy
  rw[es] at hx
  rcases N9.mp hx with hx | hx
  ·exact m.la x hx y hy
  simp_all
 ·intro x hx y hy
  rw[es] at hx
  rcases N9.mp hx with hx | hx
  ·exact m.lb x hx y (by simp_all)
  ·rw[Nz] at hx;subst hx
   obtain⟨i,hi',rfl⟩:=Pq.mp hy
   rw[NH] at hi'
   rw[QK]
   have:=NI.mp sb i nb (by lia) hl (by lia)
   simp_all
theorem Mh.l0 (m:Mh kk a b out (na+1) nb) (sa:Srt kk a.toList) (hi) (hd:∀y∈b.toList.take nb,kk y<kk a[na]):Mh kk a b (out.push a[na]) na nb:=(m.symm.jk sa hi hd).symm
theorem Mh.fU (sb:Srt kk b.toList):∀(k nb:Nat){out:Array N3},Mh kk a b out na (nb+k)->nb+k<=b.size->(∀j,(hj:j<b.size)->nb<=j->j<nb+k->∀y∈a.toList.take na,kk y<kk b[j])->Mh kk a b (out++(b.extract nb (nb+k)).reverse) na nb
 | 0,nb,out,m,_,_=>by
  have e:b.extract nb (nb+0) = #[]:=by simp;lia
  rw[e];simpa using m
 | k+1,nb,out,m,hk,hd=>by
  have ih:=Mh.fU sb k (nb+1) (by rw[show nb+1+k=nb+(k+1) by lia];exact m) (by lia) (fun j hj h1 h2=>hd j hj (by lia) (by lia))
  have e:out++(b.extract nb (nb+(k+1))).reverse=(out++(b.extract (nb+1) (nb+1+k)).reverse).push b[nb]:=by
   rw[<- Array.append_push]
   have e2:b.extract nb (nb+(k+1)) = #[b[nb]]++b.extract (nb+1) (nb+1+k):=by
    apply Array.ext
    ·simp;lia
    ·intro i h1 h2
     rw[P0,Array.getElem_append]
     split
     ·rename_i hz
      have:i=0:=by simpa using hz
      subst this;simp
     ·rename_i hz
      have:1<=i:=by simp at hz;lia
      rw[P0]
      congr 1
      simp
      lia
   rw[e2]
   simp
  rw[e]
  exact ih.jk sb (by lia) (hd nb (by lia) (by lia) (by lia))
theorem Mh.lH (sa:Srt kk a.toList) (k na) (m:Mh kk a b out (na+k) nb) (hk:na+k<=a.size) (hd:∀j,(hj:j<a.size)->na<=j->j<na+k->∀y∈b.toList.take nb,kk y<kk a[j]):Mh kk a b (out++(a.extract na (na+k)).reverse) na nb:=(Mh.fU sa k na m.symm hk hd).symm
theorem Mh.fin (m:Mh kk a b out 0 0):gm kk a b out.reverse:=by
 refine⟨?_,?_⟩
 ·rw[Array.toList_reverse]
  refine(List.reverse_perm _).trans ?_
  have:=m.perm;simp_all
 ·unfold Srt;rw[Array.toList_reverse,List.pairwise_reverse];exact m.srt
theorem yq (x y:Array N3):(x++y.reverse).reverse=y++x.reverse:=by
 simp
theorem Mh.kC (m:Mh kk a b out 0 nb) (sb:Srt kk b.toList) (hi:nb<=b.size):gm kk a b (a.extract 0 0++b.extract 0 nb++out.reverse):=by
 have e:a.extract 0 0 = #[]:=by simp
 rw[e,Array.empty_append]
 have:=Mh.fU sb nb 0 (by rw[O9];exact m) (by lia) (fun j hj _ _ y hy=>by grind)
 rw[O9] at this
 have f:=this.fin
 simp_all
theorem Mh.l9 (m:Mh kk a b out na 0) (sa:Srt kk a.toList) (hi:na<=a.size):gm kk a b (a.extract 0 na++b.extract 0 0++out.reverse):=by
 have e:b.extract 0 0 = #[]:=by simp
 rw[e]
 have:=Mh.lH sa na 0 (by rw[O9];exact m) (by lia) (fun j hj _ _ y hy=>by grind)
 rw[O9] at this
 have f:=this.fin
 simp_all
theorem Mh.first (m:Mh kk a b out na 1) (sa:Srt kk a.toList) (sb:Srt kk b.toList) (hi:na<=a.size) (hb:0<b.size) (hd:∀y∈a.toList,kk b[0]<kk y):gm kk a b (b.extract 0 1++a.extract 0 na++out.reverse):=by
 have hb1:b.toList.take 1=[b[0]]:=by rw[yw (by simpa using hb)];simp
 have m1:=Mh.lH sa na 0 (by rw[O9];exact m) (by lia) (fun j hj _ _ y hy=>by
  rw[hb1,Nz] at hy;subst hy
  exact hd _ (by simp))
 have m2:=Mh.fU sb 1 0 (by rw[O9];exact m1) (by lia) (fun j hj _ _ y hy=>by simp at hy)
 rw[O9] at m2
 have f:=m2.fin
 rw[yq,yq,<- Rp] at f
 exact f
theorem t9 (sa:Srt kk a.toList) (hi) (hv:kk a[i]<v):∀y∈a.toList.take (i+1),kk y<v:=by
 intro y hy
 obtain⟨j,hj,rfl⟩:=Pq.mp hy
 rw[NH] at hj
 rw[QK]
 rcases QV j i with z | z
 ·have:=nQ sa z hi
  grind
 grind
end
section
variable {prog:NC}{w:N4}{A:N1}{E:Ng->Nk->Prop}{s:Nk}{κ:Qy}{P:N3->Prop}{kk:N3->Int}
structure Mih (kk) (a b out) (na nb):Prop where
 m:Mh kk a b out na nb
 ha:1<=na
 hb:2<=nb
 la:na<=a.size
 lb:nb<=b.size
theorem Mh.xT (sb:Srt kk b.toList) (hle:k<=hi) (m:Mh kk a b out na hi) (hh:hi<=b.size) (hd:∀j,(hj:j<b.size)->k<=j->j<hi->∀y∈a.toList.take na,kk y<kk b[j]):Mh kk a b (out++(b.extract k hi).reverse) na k:=by
 obtain⟨d,rfl⟩:=Nat.exists_eq_add_of_le hle
 exact Mh.fU sb d k m hh hd
theorem Mh.DW (sa:Srt kk a.toList) (hle:k<=hi) (m:Mh kk a b out hi nb) (hh:hi<=a.size) (hd:∀j,(hj:j<a.size)->k<=j->j<hi->∀y∈b.toList.take nb,kk y<kk a[j]):Mh kk a b (out++(a.extract k hi).reverse) k nb:=(Mh.xT sa hle m.symm hh hd).symm
theorem get_eq {a:Array N3} (h:i<a.size) (e:k=i):a[k]?=some a[i]:=by simp_all
theorem xi {a b:Array N3}{st:NF}{Q:Array N3->NF->Prop} (c:Cmp prog w A s κ P kk) (t:Two P kk a b) (hk:kindOf st=κ) (ha:1<=a.size) (hb:1<=b.size) (h0:∀y∈a.toList,kk b[0]<kk y) (hl:kk b[b.size - 1]<kk a[a.size - 1])
  (h:∀r st',gm kk a b r->dQ st st'->Q r st'):Gv prog w A E s (Aq a b) st Q:=by
 obtain⟨A1,hA1⟩:∃A1,a.size=A1+1:=⟨a.size - 1,by lia⟩
 have hA:A1<a.size:=by lia
 have eA:a.size - 1=A1:=by lia
 have m1:Mh kk a b #[a[A1]] A1 b.size:=by
  have:=(Mh.zero (kk:=kk) (a:=a) (b:=b))
  have t1:=t9 t.sb (i:=b.size - 1) (by lia) (show kk b[b.size - 1]<kk a[A1] by have:=hl;simpa [eA] using this)
  rw[show b.size - 1+1=b.size by lia] at t1
  have:=Mh.l0 (na:=A1) (by rw[<- hA1];exact this) t.sa hA t1
  simpa using this
 have firstOk:∀{out:Array N3} {na:Nat},Mh kk a b out na 1->na<=a.size->gm kk a b (b.extract 0 1++a.extract 0 na++out.reverse):=fun{out na} m e=>m.first t.sa t.sb e (by lia) h0
 have kC:∀{out:Array N3} {na nb:Nat},Mh kk a b out na nb->na=0->nb<=b.size->gm kk a b (a.extract 0 na++b.extract 0 nb++out.reverse):=fun{out na nb} m e hb'=>by subst e;exact m.kC t.sb hb'
 with_unfolding_all refine Gv.bind (Gv.rule ?_)
 dsimp only
 refine Gv.bind (Gv.elem (get_eq hA eA) ?_)
 refine bC (fun e=>?_) (fun e1=>?_)
 ·have e':a.size - 1=0:=by simpa using e
  rw[eA]
  exact Gv.pure (h _ _ (kC m1 (by lia) (by lia)) dQ.refl)
 refine bC (fun e=>?_) (fun e2=>?_)
 ·have e':b.size=1:=by simpa using e
  rw[e'] at m1
  rw[e',eA]
  exact Gv.pure (h _ _ (firstOk m1 (by lia)) dQ.refl)
 have z1:¬ a.size - 1=0:=by simpa using e1
 have z2:¬ b.size=1:=by simpa using e2
 refine Gv.bind (Gv.get ?_)
 refine Gv.bind (Gv.mono (Q:=fun z st'=>dQ st st'/\∃r,z.1=some r/\gm kk a b r) (Gv.range (fun m z st'=>dQ st st'/\∃na nb out mg,z=(none,na,nb,out,mg)/\Mih kk a b out na nb/\na+nb<m+1) ⟨dQ.refl,a.size - 1,_,_,_,rfl,⟨by rw[eA];exact m1,by lia,by lia,by lia,by lia⟩,by lia⟩ (fun x m z st' hz=>?_) (fun z st' hz=>?_)) (fun z st' hz=>?_))
 ·obtain⟨sm,na,nb,out,mg,rfl,md,pr⟩:=hz
  dsimp only
  refine Gv.bind (Gv.mono (Q:=fun z st''=>dQ st st''/\((∃r x y o p q,z=(some r,x,y,o,p,q)/\gm kk a b r)\/∃x y o p q,z=(none,x,y,o,p,q)/\Mih kk a b o x y/\x+y<na+nb)) (Gv.range (fun m' z st''=>dQ st st''/\∃x y o p q,z=(none,x,y,o,p,q)/\Mih kk a b o x y/\x+y<=na+nb/\x+y+(a.size+b.size)<=na+nb+m') ⟨sm,_,_,_,_,_,rfl,md,by lia,by lia⟩ (fun x m' z st'' hz=>?_) (fun z st'' hz=>?_)) (fun z st'' hz=>?_))
  ·obtain⟨sm2,x2,y2,o,p,q,rfl,⟨mm,ha2,hb2,la2,lb2⟩,pr0,pr2⟩:=hz
   clear pr md z1 z2 e1 e2 m1 hl eA hA hA1
   obtain⟨i,rfl⟩:∃i,x2=i+1:=⟨x2 - 1,by lia⟩
   obtain⟨j,rfl⟩:∃j,y2=j+2:=⟨y2 - 2,by lia⟩
   have hk2:kindOf st''=κ:=sm2.kind.trans hk
   have hi:i<a.size:=by lia
   have hj:j+1<b.size:=by lia
   dsimp only
   refine Gv.bind (Gv.elem (get_eq hj (by lia)) ?_)
   refine Gv.bind (Gv.elem (get_eq hi (by lia)) ?_)
   refine Gv.bind (Gv.ltC c (t.pb _ (NO hj)) (t.pa _ (NO hi)) hk2 ?_)
   dsimp only
   by_cases lt:kk b[j+1]<kk a[i]
   ·rw[decide_eq_true lt,if_pos rfl]
    have m3:Mh kk a b _ i (j+2):=mm.l0 t.sa hi (t9 t.sb hj lt)
    refine Gv.bind (Gv.elem (get_eq hi (by lia)) ?_)
    refine bC (fun e=>Gv.pure ⟨sm2,.inl ⟨_,_,_,_,_,_,rfl,kC m3 (by simpa using e) (by lia)⟩⟩) (fun e=>?_)
    have e':¬ i=0:=by simpa using e
    exact bC (fun _=>Gv.pure ⟨sm2,.inr ⟨i,j+2,_,_,_,rfl,⟨m3,by lia,by lia,by lia,by lia⟩,by lia⟩⟩) (fun _=>Gv.pure ⟨sm2,i,j+2,_,_,_,rfl,⟨m3,by lia,by lia,by lia,by lia⟩,by lia,by lia⟩)
   ·have gt:kk a[i]<kk b[j+1]:=by have:=t.ne hi hj;lia
    rw[decide_eq_false lt,if_neg (by decide)]
    have m3:Mh kk a b _ (i+1) (j+1):=mm.jk t.sb hj (t9 t.sa hi gt)
    refine Gv.bind (Gv.elem (get_eq hj (by lia)) ?_)
    refine bC (fun e=>?_) (fun e=>?_)
    ·have e':j=0:=by simpa using e
     subst e'
     exact Gv.pure ⟨sm2,.inl ⟨_,_,_,_,_,_,rfl,firstOk m3 (by lia)⟩⟩
    have e':¬ j=0:=by simpa using e
    exact bC (fun _=>Gv.pure ⟨sm2,.inr ⟨i+1,j+1,_,_,_,rfl,⟨m3,by lia,by lia,by lia,by lia⟩,by lia⟩⟩) (fun _=>Gv.pure ⟨sm2,i+1,j+1,_,_,_,rfl,⟨m3,by lia,by lia,by lia,by lia⟩,by lia,by lia⟩)
  ·obtain⟨sm2,x2,y2,o,p,q,rfl,md2,pr0,pr2⟩:=hz
   exact⟨sm2,.inr ⟨_,_,_,_,_,rfl,md2,by lia⟩⟩
  ·obtain⟨sm2,⟨r,x2,y2,o,p,q,rfl,fr⟩ | ⟨x2,y2,o,p,q,rfl,md2,pr2⟩⟩:=hz
   ·exact Gv.pure ⟨sm2,r,rfl,fr⟩
   ·dsimp only
    refine Gv.bind (Gv.rule ?_)
    refine Gv.bind (Gv.mono (Q:=fun z st4=>dQ st st4/\((∃r x y o g p q,z=(some r,x,y,o,g,p,q)/\gm kk a b r)\/∃x y o g p q,z=(none,x,y,o,g,p,q)/\Mih kk a b o x y/\x+y<na+nb)) (Gv.range (fun m' z st4=>dQ st st4/\∃x y o g p q,z=(none,x,y,o,g,p,q)/\Mih kk a b o x y/\x+y<na+nb) ⟨sm2,_,_,_,_,_,_,rfl,md2,pr2⟩ (fun x m' z st4 hz=>?_) (fun z st4 hz=>?_)) (fun z st4 hz=>?_))
    ·obtain⟨sm4,x4,y4,o,g,p,q,rfl,⟨mm,ha4,hb4,la4,lb4⟩,pr4⟩:=hz
     clear pr pr2 md md2 z1 z2 e1 e2 m1 hl eA hA hA1
     obtain⟨i,rfl⟩:∃i,x4=i+1:=⟨x4 - 1,by lia⟩
     obtain⟨j,rfl⟩:∃j,y4=j+2:=⟨y4 - 2,by lia⟩
     have hj:j+1<b.size:=by lia
     have hi:i<a.size:=by lia
     dsimp only
     refine A8 ?_
     generalize g - 1=g1
     revert g1
     refine yP (fun g'=>?_) (fun f=>f g)
     ·with_unfolding_all refine Gv.bind (Gv.modS ⟨rfl,rfl,rfl,rfl⟩ (fun st3 sm3'=>?_))
      have sm3:=sm4.trans sm3'
      have hk3:kindOf st3=κ:=sm3.kind.trans hk
      refine Gv.bind (Gv.elem (get_eq hj (by lia)) ?_)
      refine Gv.bind (r9 (n:=i+1) (hint:=i) c t.pa (t.pb _ (NO hj)) hk3 (by lia) (by lia) (fun p q hq _ hpq _=>nQ t.sa hpq hq) (fun p hp _ _=>t.ne hp hj) (fun k hk1 e1 e2=>?_))
      dsimp only
      apply x_ (F:=fun o' k'=>∃I,∃hI:I<a.size,k'=I+1/\Mh kk a b o' (I+1) (j+2)/\I<=i/\kk a[I]<kk b[j+1])
      ·intro key
       by_cases k0:i+1 - k > 0
       ·rw[if_pos k0]
        have m3':=Mh.DW t.sa (show k<=i+1 by lia) mm (by lia) (fun p hp h1 h2=>t9 t.sb hj (e2 p hp (by lia) (by lia)))
        refine bC (fun e=>Gv.pure ⟨sm3,.inl ⟨_,_,_,_,_,_,_,rfl,kC m3' (by simpa using e) (by lia)⟩⟩) (fun ne1=>?_)
        have ne1':¬ k=0:=by simpa using ne1
        generalize o++(a.extract k (i+1)).reverse=o' at m3' ⊢
        obtain⟨I,hI⟩:∃I,k=I+1:=⟨k - 1,by lia⟩
        have z:∃I,∃hI:I<a.size,k=I+1/\Mh kk a b o' (I+1) (j+2)/\I<=i/\kk a[I]<kk b[j+1]:=⟨I,by lia,hI,by rw[<- hI];exact m3',by lia,e1 I (by lia) (by lia) (by lia)⟩
        revert z
        generalize k=k2
        exact key o' k2
       ·have e':k=i+1:=by lia
        subst e'
        rw[if_neg k0]
        exact key o (i+1) ⟨i,hi,rfl,mm,by lia,e1 i hi (by lia) (by lia)⟩
      ·rintro o' k' ⟨I,hI,ek,m3,iI,gtI⟩
       subst ek
       refine Gv.bind (Gv.elem (get_eq hj (by lia)) ?_)
       have m4:Mh kk a b _ (I+1) (j+1):=Mh.jk m3 t.sb hj (t9 t.sa hI gtI)
       refine bC (fun e=>?_) (fun ne3=>?_)
       ·have e':j=0:=by simpa using e
        subst e'
        exact Gv.pure ⟨sm3,.inl ⟨_,_,_,_,_,_,_,rfl,firstOk m4 (by lia)⟩⟩
       have ne3':¬ j=0:=by simpa using ne3
       refine Gv.bind (Gv.elem (get_eq hI (by lia)) ?_)
       refine Gv.bind (tJ (n:=j+1) (hint:=j) c t.pb (t.pa _ (NO hI)) hk3 (by lia) (by lia) (fun p q hq _ hpq _=>nQ t.sb hpq hq) (fun k1 hk1 f1 f2=>?_))
       dsimp only
       refine bC (fun k10=>?_) (fun k10=>?_)
       ·skip
        have m5:=Mh.xT t.sb (show k1<=j+1 by lia) m4 (by lia) (fun q hq h1 h2=>t9 t.sa hI (by have:=f2 q hq (by lia) (by lia);have:=t.ne hI hq;lia))
        refine bC (fun e=>?_) (fun ne4=>?_)
        ·have e':k1=1:=by simpa using e
         subst e'
         exact Gv.pure ⟨sm3,.inl ⟨_,_,_,_,_,_,_,rfl,firstOk m5 (by lia)⟩⟩
        refine bC (fun e=>?_) (fun ne6=>?_)
        ·have e':k1=0:=by simpa using e
         subst e'
         exact Gv.pure ⟨sm3,.inl ⟨_,_,_,_,_,_,_,rfl,m5.l9 t.sa (by lia)⟩⟩
        have ne4':¬ k1=1:=by simpa using ne4
        have ne6':¬ k1=0:=by simpa using ne6
        have ltJ:∀y∈b.toList.take k1,kk y<kk a[I]:=by
         have:=t9 t.sb (i:=k1 - 1) (by lia) (f1 (k1 - 1) (by lia) (by lia) (by lia))
         rwa [show k1 - 1+1=k1 by lia] at this
        refine Gv.bind (Gv.elem (get_eq hI (by lia)) ?_)
        have m6:Mh kk a b _ I k1:=Mh.l0 m5 t.sa hI ltJ
        refine bC (fun e=>Gv.pure ⟨sm3,.inl ⟨_,_,_,_,_,_,_,rfl,kC m6 (by simpa using e) (by lia)⟩⟩) (fun ne5=>?_)
        have ne5':¬ I=0:=by simpa using ne5
        exact bC (fun _=>Gv.pure ⟨sm3,.inr ⟨I,k1,_,_,_,_,rfl,⟨m6,by lia,by lia,by lia,by lia⟩,by lia⟩⟩) (fun _=>Gv.pure ⟨sm3,I,k1,_,_,_,_,rfl,⟨m6,by lia,by lia,by lia,by lia⟩,by lia⟩)
       ·skip
        have e1':k1=j+1:=by lia
        have m5:=m4
        have ltJ:∀y∈b.toList.take (j+1),kk y<kk a[I]:=t9 t.sb (by lia) (f1 j (by lia) (by lia) (by lia))
        refine Gv.bind (Gv.elem (get_eq hI (by lia)) ?_)
        have m6:Mh kk a b _ I (j+1):=Mh.l0 m5 t.sa hI ltJ
        refine bC (fun e=>Gv.pure ⟨sm3,.inl ⟨_,_,_,_,_,_,_,rfl,kC m6 (by simpa using e) (by lia)⟩⟩) (fun ne5=>?_)
        have ne5':¬ I=0:=by simpa using ne5
        exact bC (fun _=>Gv.pure ⟨sm3,.inr ⟨I,(j+1),_,_,_,_,rfl,⟨m6,by lia,by lia,by lia,by lia⟩,by lia⟩⟩) (fun _=>Gv.pure ⟨sm3,I,(j+1),_,_,_,_,rfl,⟨m6,by lia,by lia,by lia,by lia⟩,by lia⟩)
    ·obtain⟨sm4,x4,y4,o,g,p,q,rfl,md4,pr4⟩:=hz
     exact⟨sm4,.inr ⟨_,_,_,_,_,_,rfl,md4,pr4⟩⟩
    ·obtain⟨sm4,⟨r,x4,y4,o,g,p,q,rfl,fr⟩ | ⟨x4,y4,o,g,p,q,rfl,md4,pr4⟩⟩:=hz
     ·exact Gv.pure ⟨sm4,r,rfl,fr⟩
     ·dsimp only
      with_unfolding_all refine Gv.bind (Gv.modS ⟨rfl,rfl,rfl,rfl⟩ (fun st3 sm3'=>?_))
      exact Gv.pure ⟨sm4.trans sm3',_,_,_,_,rfl,md4,by lia⟩
 ·obtain⟨sm,na,nb,out,mg,rfl,md,pr⟩:=hz
  have:=md.ha
  lia
 ·obtain⟨sm,r,e,fr⟩:=hz
  rw[e]
  exact Gv.pure (h r st' fr sm)
end
section
variable {kk:N3->Int}
noncomputable def seg (a:Array N3) (lo n:Nat):List N3:=(a.toList.drop lo).take n
theorem cO {lo n:Nat} (h:lo+n<=a.size):(seg a lo n).length=n:=by unfold seg;grind
theorem kz {lo n i:Nat} (h) (hi):(seg a lo n)[i]'(by rw[cO h];exact hi)=a[lo+i]:=by
 unfold seg;simp
theorem cy (a) (lo n k) (h:k<=n):seg a lo n=seg a lo k++seg a (lo+k) (n - k):=by
 unfold seg
 rw[<- Qe]
 have:n=k+(n - k):=by lia
 grind
theorem kF {lo n:Nat} (h:lo+n<=a.size) (s:Srt kk (seg a lo n)){j m:Nat} (hj:lo<=j) (hjm:j<m) (hm:m<lo+n):kk (a[j]'(by lia))<kk (a[m]'(by lia)):=by
 have:=NI.mp s (j - lo) (m - lo) (by rw[cO h];lia) (by rw[cO h];lia) (by lia)
 rw[kz h (by lia),kz h (by lia)] at this
 grind
theorem de {lo n:Nat} (h:lo+n<=a.size) (hx:x∈seg a lo n):∃j,∃hj:j<a.size,lo<=j/\j<lo+n/\a[j]=x:=by
 obtain⟨i,hi,rfl⟩:=Pq.mp hx
 have hi':i<n:=by rw[cO h] at hi;exact hi
 exact⟨lo+i,by lia,by lia,by lia,(kz h hi').symm⟩
theorem yt {lo n:Nat} (h:x∈seg a lo n):x∈a:=by
 have:=Q9 (Qa h)
 simp_all
theorem fw (a) (lo n):a.toList=a.toList.take lo++seg a lo n++a.toList.drop (lo+n):=by
 unfold seg
 rw[<- Qe,Ow,Od,Od]
theorem xO (a) (lo hi):(a.extract lo hi).toList=seg a lo (hi - lo):=by
 unfold seg;simp
theorem vk:∀(l o X Z:List N3) (a:Array N3) (k pos:Nat),a.toList=X++o++Z->o.length=l.length->X.length=pos+k->((l.zipIdx k).foldl (fun a pj=>a.setIfInBounds (pos+pj.2) pj.1) a).toList=X++l++Z
 | [],o,X,Z,a,k,pos,e,hl,_=>by
  simp_all
 | x::l,[],X,Z,a,k,pos,e,hl,_=>by grind
 | x::l,y::o,X,Z,a,k,pos,e,hl,hX=>by
  rw[List.zipIdx_cons,Oz]
  have e1:(a.setIfInBounds (pos+k) x).toList=(X++[x])++o++Z:=by
   simp_all
  have:=vk l o (X++[x]) Z (a.setIfInBounds (pos+k) x) (k+1) pos e1 (by simp_all) (by grind)
  simp_all
end
section
variable {prog:NC}{w:N4}{A:N1}{E:Ng->Nk->Prop}{s:Nk}{κ:Qy}{P:N3->Prop}{kk:N3->Int}
theorem Gv.Ll {st st0:NF} (h:∀st',st'=st0->Q ⟨⟩ st'):Gv prog w A E s (MonadState.set st0:StateT NF Sem PUnit) st Q:=Gv.set (h _ rfl)
theorem Gv.pq {st:NF} (h:∀st',st'=f st->Q ⟨⟩ st'):Gv prog w A E s (_root_.modify f:StateT NF Sem PUnit) st Q:=Gv.modify (h _ rfl)
theorem qo {a:Array N3} (nd:(a.toList.map kk).Nodup){i j:Nat} (hi:i<a.size) (hj:j<a.size) (n:i≠j):kk a[i]≠kk a[j]:=fun e=>by
 have h:=NI.mp nd
 rcases Nat.lt_or_gt_of_ne n with z | z
 ·have:=h i j (by simpa using hi) (by simpa using hj) z
  simp at this;exact this e
 ·have:=h j i (by simpa using hj) (by simpa using hi) z
  simp at this;exact this e.symm
theorem gU {a a':Array N3}{sa na nb k q:Nat}{r:List N3} (hk:k<=na) (hq:q<=nb) (hn:sa+na+nb<=a.size) (hr:r.Perm (seg a (sa+k) (na - k)++seg a (sa+na) q)) (sr:Srt kk r)
  (e:a'.toList=a.toList.take (sa+k)++r++a.toList.drop (sa+na+q))
  (s1:Srt kk (seg a sa na)) (s2:Srt kk (seg a (sa+na) nb)) (o3:∀j,(hj:j<a.size)->sa<=j->j<sa+k->∀m,(hm:m<a.size)->sa+na<=m->m<sa+na+nb->kk a[j]<kk a[m])
  (o4:∀j,(hj:j<a.size)->sa<=j->j<sa+na->∀m,(hm:m<a.size)->sa+na+q<=m->m<sa+na+nb->kk a[j]<kk a[m]) :
  a'.toList=a.toList.take sa++(seg a sa k++r++seg a (sa+na+q) (nb - q))++a.toList.drop (sa+na+nb)/\(seg a sa k++r++seg a (sa+na+q) (nb - q)).Perm (seg a sa (na+nb))/\Srt kk (seg a sa k++r++seg a (sa+na+q) (nb - q)):=by
 have e1:=cy a sa na k hk
 have e2:=cy a (sa+na) nb q hq
 refine⟨?_,?_,?_⟩
 ·rw[e,List.take_add]
  have:a.toList.drop (sa+na+q)=seg a (sa+na+q) (nb - q)++a.toList.drop (sa+na+nb):=by
   have:=(Od (nb - q) (a.toList.drop (sa+na+q))).symm
   rwa [Qe,show sa+na+q+(nb - q)=sa+na+nb by lia] at this
  rw[this]
  unfold seg
  simp[Ow]
 ·have e3:seg a sa (na+nb)=seg a sa na++seg a (sa+na) nb:=by
   have:=cy a sa (na+nb) na (by lia)
   rwa [show na+nb - na=nb by lia] at this
  rw[e3,e1,e2]
  have:=(hr.append_left (seg a sa k)).append_right (seg a (sa+na+q) (nb - q))
  simpa [Ow] using this
 ·have S1:=s1
  rw[e1] at S1
  have S2:=s2
  rw[e2] at S2
  unfold Srt at S1 S2
  rw[NR] at S1 S2
  refine NR.mpr ⟨NR.mpr ⟨S1.1,sr,fun x hx y hy=>?_⟩,S2.2.1,fun x hx y hy=>?_⟩
  ·rcases N9.mp (hr.mem_iff.mp hy) with hy | hy
   ·exact S1.2.2 x hx y hy
   ·obtain⟨j,hj,j1,j2,rfl⟩:=de (by lia) hx
    obtain⟨m,hm,m1,m2,rfl⟩:=de (by lia) hy
    exact o3 j hj j1 j2 m hm m1 (by lia)
  ·obtain⟨m,hm,m1,m2,rfl⟩:=de (by lia) hy
   rcases N9.mp hx with hx | hx
   ·obtain⟨j,hj,j1,j2,rfl⟩:=de (by lia) hx
    exact o4 j hj j1 (by lia) m hm (by lia) (by lia)
   ·rcases N9.mp (hr.mem_iff.mp hx) with hx | hx
    ·obtain⟨j,hj,j1,j2,rfl⟩:=de (by lia) hx
     exact o4 j hj (by lia) (by lia) m hm (by lia) (by lia)
    ·exact S2.2.2 _ hx _ hy
theorem xE {i sa na pw nb pw2:Nat}{st:NF}{Q:Bool->NF->Prop} (c:Cmp prog w A s κ P kk) (hk:kindOf st=κ) (hf:failedOf st=none) (hp:∀x∈arrOf st,P x) (nd:((arrOf st).toList.map kk).Nodup)
  (p1:(pendingOf st)[i]?=some (sa,na,pw)) (p2:(pendingOf st)[i+1]?=some (sa+na,nb,pw2)) (h1:1<=na) (h2:1<=nb) (hn:sa+na+nb<=(arrOf st).size) (s1:Srt kk (seg (arrOf st) sa na)) (s2:Srt kk (seg (arrOf st) (sa+na) nb))
  (h:∀(st':NF) (M:List N3),kindOf st'=κ->failedOf st'=none->pendingOf st'=((pendingOf st).setIfInBounds i (sa,na+nb,pw)).eraseIdxIfInBounds (i+1)->(arrOf st').toList=(arrOf st).toList.take sa++M++(arrOf st).toList.drop (sa+na+nb)->M.Perm (seg (arrOf st) sa (na+nb))->Srt kk M->Q true st'):Gv prog w A E s (mergeAt' i) st Q:=by
 obtain⟨kd,a,pd,mg,fl⟩:=st
 with_unfolding_all refine Gv.bind (Gv.get ?_)
 rw[show pd[i]?=_ from p1,show pd[i+1]?=_ from p2]
 dsimp only
 replace nd:(a.toList.map kk).Nodup:=nd
 replace hn:sa+na+nb<=a.size:=hn
 refine Gv.bind (Gv.Ll fun st1 f1=>?_)
 have k1:kindOf st1=κ:=by rw[f1];exact hk
 have fl1:failedOf st1=none:=by rw[f1];exact hf
 have a1:arrOf st1=a:=by rw[f1]
 have pd1:pendingOf st1=(pd.setIfInBounds i (sa,na+nb,pw)).eraseIdxIfInBounds (i+1):=by rw[f1]
 have hsb:sa+na<a.size:=by lia
 have hs1:sa+na<=a.size:=by lia
 have o1:∀{j m:Nat} (hm:m<a.size),sa<=j->(hjm:j<m)->m<sa+na->kk (a[j]'(by lia))<kk a[m]:=fun hm h1 h2 h3=>kF hs1 s1 h1 h2 h3
 have o2:∀{j m:Nat} (hm:m<a.size),sa+na<=j->(hjm:j<m)->m<sa+na+nb->kk (a[j]'(by lia))<kk a[m]:=fun hm h1 h2 h3=>kF hn s2 h1 h2 h3
 refine Gv.bind (Gv.elem (get_some hsb) ?_)
 refine Gv.bind (r9 c hp (hp _ (NO hsb)) k1 hs1 (by lia) (fun j m hm h1 h2 h3=>o1 hm h1 h2 h3) (fun j hj h1 h2=>qo nd hj hsb (by lia)) (fun k hk1 e1 e2=>?_))
 have O3:∀j,(hj:j<a.size)->sa<=j->j<sa+k->∀m,(hm:m<a.size)->sa+na<=m->m<sa+na+nb->kk a[j]<kk a[m]:=fun j hj h1 h2 m hm h3 h4=>by
  have x1:=e1 j hj h1 h2
  rcases OR h3 with z | z
  ·have:=o2 hm (Ni _) z h4;lia
  ·subst z;exact x1
 dsimp only
 refine bC (fun e=>?_) (fun ne1=>?_)
 ·have e':na - k=0:=by simpa using e
  have ek:k=na:=by lia
  subst ek
  have pb:=gU (a:=a) (a':=arrOf st1) (sa:=sa) (na:=k) (nb:=nb) (k:=k) (q:=nb) (r:=seg a (sa+k) nb) (Ni _) (Ni _) hn (by unfold seg;simp) s2 (by rw[a1];exact fw a (sa+k) nb) s1 s2 O3 (fun j hj h1 h2 m hm h3 h4=>by lia)
  exact Gv.pure (h st1 _ k1 fl1 pd1 pb.1 pb.2.1 pb.2.2)
 have ne1':¬ na - k=0:=by simpa using ne1
 have hx:sa+na - 1<a.size:=by lia
 refine Gv.bind (Gv.elem (get_eq hx (by lia)) ?_)
 refine Gv.bind (tJ c hp (hp _ (NO hx)) k1 hn (by lia) (fun j m hm h1 h2 h3=>o2 hm h1 h2 h3) (fun q hq1 f1 f2=>?_))
 have O4:∀j,(hj:j<a.size)->sa<=j->j<sa+na->∀m,(hm:m<a.size)->sa+na+q<=m->m<sa+na+nb->kk a[j]<kk a[m]:=fun j hj h1 h2 m hm h3 h4=>by
  have x1:=f2 m hm h3 h4
  have x2:=qo nd hm hx (by lia)
  rcases OR (show j<=sa+na - 1 by lia) with z | z
  ·have:=o1 hx h1 z (by lia);lia
  ·subst z;lia
 dsimp only
 refine bC (fun e=>?_) (fun ne2=>?_)
 ·have e':q=0:=by simpa using e
  subst e'
  have pb:=gU (a:=a) (a':=arrOf st1) (sa:=sa) (na:=na) (nb:=nb) (k:=k) (q:=0) (r:=seg a (sa+k) (na - k)) hk1 (Ox _) hn (by unfold seg;simp) (by have:=s1;rw[cy a sa na k hk1] at this;exact(NR.mp this).2.1) (by rw[a1,Nat.add_zero];have:=fw a (sa+k) (na - k);rwa [show sa+k+(na - k)=sa+na by lia] at this) s1 s2 O3 O4
  exact Gv.pure (h st1 _ k1 fl1 pd1 pb.1 pb.2.1 pb.2.2)
 have ne2':¬ q=0:=by simpa using ne2
 -- the merge
 have xl:(a.extract (sa+k) (sa+na)).toList=seg a (sa+k) (na - k):=by rw[xO,show sa+na - (sa+k)=na - k by lia]
 have yl:(a.extract (sa+na) (sa+na+q)).toList=seg a (sa+na) q:=by rw[xO,show sa+na+q - (sa+na)=q by lia]
 have xs:(a.extract (sa+k) (sa+na)).size=na - k:=by simp;lia
 have ys:(a.extract (sa+na) (sa+na+q)).size=q:=by simp;lia
 have xg:∀j,(hj:j<na - k)->(a.extract (sa+k) (sa+na))[j]'(by rw[xs];exact hj)=a[sa+k+j]'(by lia):=fun j hj=>by rw[P0]
 have yg:∀j,(hj:j<q)->(a.extract (sa+na) (sa+na+q))[j]'(by rw[ys];exact hj)=a[sa+na+j]'(by lia):=fun j hj=>by rw[P0]
 have tw:Two P kk (a.extract (sa+k) (sa+na)) (a.extract (sa+na) (sa+na+q)):=by
  refine⟨fun x hx=>hp x ?_,fun x hx=>hp x ?_,?_,?_,?_⟩
  ·have hx':x∈(a.extract (sa+k) (sa+na)).toList:=O5.mpr hx
   rw[xl] at hx';exact yt hx'
  ·have hx':x∈(a.extract (sa+na) (sa+na+q)).toList:=O5.mpr hx
   rw[yl] at hx';exact yt hx'
  ·rw[xl];have:=s1;rw[cy a sa na k hk1] at this;exact(NR.mp this).2.1
  ·rw[yl];have:=s2;rw[cy a (sa+na) nb q hq1] at this;exact(NR.mp this).1
  ·intro x hx y hy
   rw[xl] at hx
   rw[yl] at hy
   obtain⟨j,hj,j1,j2,rfl⟩:=de (by lia) hx
   obtain⟨m,hm,m1,m2,rfl⟩:=de (by lia) hy
   exact qo nd hj hm (by lia)
 have fin:∀(r:Array N3) (st2:NF),gm kk (a.extract (sa+k) (sa+na)) (a.extract (sa+na) (sa+na+q)) r->dQ st1 st2->∀st3:NF,kindOf st3=kindOf st2->failedOf st3=failedOf st2->pendingOf st3=pendingOf st2->arrOf st3=r.toList.zipIdx.foldl (fun a pj=>a.setIfInBounds (sa+k+pj.2) pj.1) (arrOf st2)->Q true st3:=by
  intro r st2 fr sm st3 g1 g2 g3 g4
  obtain⟨pr,sr⟩:=fr
  rw[xl,yl] at pr
  have hrl:r.toList.length=na - k+q:=by rw[pr.length_eq,NY,cO (by lia),cO (by lia)]
  have ea:(arrOf st3).toList=a.toList.take (sa+k)++r.toList++a.toList.drop (sa+na+q):=by
   rw[g4,sm.arr,a1]
   have e0:=fw a (sa+k) (na - k+q)
   rw[show sa+k+(na - k+q)=sa+na+q by lia] at e0
   exact vk r.toList (seg a (sa+k) (na - k+q)) (a.toList.take (sa+k)) (a.toList.drop (sa+na+q)) a 0 (sa+k) e0 (by rw[cO (by lia),hrl]) (by rw[NH,Nu];lia)
  have pb:=gU hk1 hq1 hn pr sr ea s1 s2 O3 O4
  exact h st3 _ (g1.trans (sm.kind.trans k1)) (g2.trans (sm.fail.trans fl1)) (g3.trans (sm.pend.trans pd1)) pb.1 pb.2.1 pb.2.2
 have lo0:kk ((a.extract (sa+na) (sa+na+q))[0]'(by lia))<kk ((a.extract (sa+k) (sa+na))[0]'(by lia)):=by
  rw[xg 0 (by lia),yg 0 (by lia)]
  exact e2 (sa+k) (by lia) (by lia) (by lia)
 have allY:∀y∈(a.extract (sa+na) (sa+na+q)).toList,kk y<kk ((a.extract (sa+k) (sa+na))[(a.extract (sa+k) (sa+na)).size - 1]'(by lia)):=by
  intro y hy
  rw[yl] at hy
  obtain⟨m,hm,m1,m2,rfl⟩:=de (by lia) hy
  have:(a.extract (sa+k) (sa+na))[(a.extract (sa+k) (sa+na)).size - 1]'(by lia)=a[sa+na - 1]:=by
   rw[xg _ (by lia)]
   congr 1
   lia
  rw[this]
  exact f1 m hm m1 m2
 refine bC (fun _=>?_) (fun _=>?_)
 ·refine Gv.bind (wj c tw k1 (by lia) (by lia) lo0 allY (fun r st2 fr sm=>?_))
  refine Gv.bind (Gv.pq fun st3 g=>?_)
  refine Gv.bind (Gv.get ?_)
  have g2:failedOf st3=failedOf st2:=by rw[g]
  have g3:(failedOf st3).isNone=true:=by rw[g2.trans (sm.fail.trans fl1)];rfl
  refine Gv.pure ?_
  show Q (failedOf st3).isNone st3
  rw[g3]
  exact fin r st2 fr sm st3 (by rw[g]) g2 (by rw[g]) (by rw[g])
 ·refine Gv.bind (xi c tw k1 (by lia) (by lia) (fun y hy=>?_) (allY _ (O5.mpr (NO _))) (fun r st2 fr sm=>?_))
  ·rw[xl] at hy
   obtain⟨m,hm,m1,m2,rfl⟩:=de (by lia) hy
   rw[yg 0 (by lia)]
   exact e2 m hm (by lia) (by lia)
  refine Gv.bind (Gv.pq fun st3 g=>?_)
  refine Gv.bind (Gv.get ?_)
  have g2:failedOf st3=failedOf st2:=by rw[g]
  have g3:(failedOf st3).isNone=true:=by rw[g2.trans (sm.fail.trans fl1)];rfl
  refine Gv.pure ?_
  show Q (failedOf st3).isNone st3
  rw[g3]
  exact fin r st2 fr sm st3 (by rw[g]) g2 (by rw[g]) (by rw[g])
end
section
variable {kk:N3->Int}{a:Array N3}
theorem iS {lo n i:Nat}:(seg a lo n)[i]?=if i<n then a[lo+i]? else none:=by
 unfold seg
 rw[PR,PQ]
 split
 ·rw[Nr]
 ·rfl
theorem u0 {i j:Nat} (hij:i<=j) (hj:j<=a.size):(mirror a i j ((j - i) / 2)).toList=a.toList.take i++(seg a i (j - i)).reverse++a.toList.drop j:=by
 have hsl:(seg a i (j - i)).length=j - i:=cO (by lia)
 apply Py
 intro k
 rw[Nr,getElem?_mirror_all hj]
 have l1:(a.toList.take i).length=i:=by rw[NH,Nu];lia
 have l2:(a.toList.take i++(seg a i (j - i)).reverse).length=j:=by rw[NY,Ro];lia
 by_cases h1:k<i
 ·rw[if_neg (by lia),Nq (by rw[l2];lia),Nq (by rw[l1];exact h1),PR,if_pos h1,Nr]
 ·by_cases h2:k<j
  ·rw[if_pos ⟨by lia,h2⟩,Nq (by rw[l2];lia),Ny (by rw[l1];lia),List.getElem?_reverse (by rw[hsl];lia),iS,if_pos (by lia)]
   congr 1
   lia
  ·rw[if_neg (by lia),Ny (by rw[l2];lia),PQ,Nr]
   congr 1
   lia
theorem t_ {src dst:Nat} (hd:dst<=src) (hs:src<a.size):(bubble a src (src - dst)).toList=a.toList.take dst++(a[src]::seg a dst (src - dst))++a.toList.drop (src+1):=by
 have hsl:(seg a dst (src - dst)).length=src - dst:=cO (by lia)
 apply Py
 intro k
 rw[Nr,getElem?_bubble hs _ (by lia),show src - (src - dst)=dst by lia]
 have l1:(a.toList.take dst).length=dst:=by rw[NH,Nu];lia
 have l2:(a.toList.take dst++(a[src]::seg a dst (src - dst))).length=src+1:=by rw[NY,N8];lia
 by_cases h0:k<dst
 ·rw[if_neg (by lia),if_neg (by lia),Nq (by rw[l2];lia),Nq (by rw[l1];exact h0),PR,if_pos h0,Nr]
 ·by_cases h1:k=dst
  ·subst h1
   rw[Nq (by rw[l2];lia),Ny (by rw[l1];lia),l1]
   simp[hs]
  ·by_cases h2:k<=src
   ·rw[if_neg h1,if_pos ⟨by lia,h2⟩,Nq (by rw[l2];lia),Ny (by rw[l1];lia),l1]
    obtain⟨e,he⟩:∃e,k - dst=e+1:=⟨k - dst - 1,by lia⟩
    rw[he,List.getElem?_cons_succ,iS,if_pos (by lia)]
    congr 1
    lia
   ·rw[if_neg h1,if_neg (by lia),Ny (by rw[l2];lia),PQ,Nr]
    congr 1
    lia
theorem iX {lo n:Nat} (h:lo+n<a.size):seg a lo (n+1)=seg a lo n++[a[lo+n]]:=by
 rw[cy a lo (n+1) n (by lia)]
 congr 1
 apply Py
 intro k
 rw[iS]
 cases k with
 | zero=>simp[h]
 | succ k=>simp
theorem xY:Srt kk [x]:=O7 _ _
theorem Ds {lo:Nat} (h:lo<a.size):Srt kk (seg a lo 1):=by
 have:=iX (show lo+0<a.size by lia)
 rw[this]
 have e:seg a lo 0=[]:=by rfl
 rw[e];exact xY
theorem D5 {lo n:Nat} (s:Srt kk (seg a lo n)) (h1:1<=n) (h:lo+n<a.size) (lt:kk a[lo+n - 1]<kk a[lo+n]):Srt kk (seg a lo (n+1)):=by
 rw[iX h]
 refine NR.mpr ⟨s,xY,fun x hx y hy=>?_⟩
 rw[Nz] at hy;subst hy
 obtain⟨j,hj,j1,j2,rfl⟩:=de (by lia) hx
 rcases OR (show j<=lo+n - 1 by lia) with z | z
 ·have:=kF (by lia) s j1 z (by lia);lia
 simp_all
noncomputable def Dsc (kk:N3->Int) (l:List N3):Prop:=l.Pairwise fun x y=>kk y<kk x
theorem yz {lo n:Nat} (s:Dsc kk (seg a lo n)) (h1:1<=n) (h) (lt:kk a[lo+n]<kk a[lo+n - 1]):Dsc kk (seg a lo (n+1)):=by
 rw[iX h]
 refine NR.mpr ⟨s,O7 _ _,fun x hx y hy=>?_⟩
 rw[Nz] at hy;subst hy
 obtain⟨j,hj,j1,j2,rfl⟩:=de (by lia) hx
 rcases OR (show j<=lo+n - 1 by lia) with z | z
 ·have hl:(seg a lo n).length=n:=cO (by lia)
  have:=NI.mp s (j - lo) (n - 1) (by lia) (by lia) (by lia)
  rw[kz (by lia) (by lia),kz (by lia) (by lia)] at this
  grind
 simp_all
structure Prt (a a':Array N3) (lo n) (S):Prop where
 eq:a'.toList=a.toList.take lo++S++a.toList.drop (lo+n)
 perm:S.Perm (seg a lo n)
theorem Prt.all {lo n:Nat} (p:Prt a a' lo n S):a'.toList.Perm a.toList:=by
 rw[p.eq]
 conv=>rhs;rw[fw a lo n]
 exact(p.perm.append_left _).append_right _
theorem Prt.size {lo n:Nat} (p:Prt a a' lo n S):a'.size=a.size:=by
 have:=p.all.length_eq;omega
theorem Prt.P {lo n:Nat}{P:N3->Prop} (p:Prt a a' lo n S) (h:∀x∈a,P x):∀x∈a',P x:=fun x hx=>h x (by
 have:=p.all.mem_iff.mp (O5.mpr hx);simp_all)
theorem Prt.nd {lo n:Nat} (p:Prt a a' lo n S) (h:(a.toList.map kk).Nodup):(a'.toList.map kk).Nodup:=((p.all.map kk).nodup_iff).mpr h
theorem Prt.seg {lo n:Nat} (p:Prt a a' lo n S) (h:lo+n<=a.size):seg a' lo n=S:=by
 have hS:S.length=n:=by rw[p.perm.length_eq,cO h]
 unfold L2.SM.seg
 rw[p.eq,Ow,List.drop_append_of_le_length (by grind),Pf (by grind),Pd,OG (by lia),N2 (by lia)]
theorem Prt.before {lo n:Nat} (p:Prt a a' lo n S) (h:lo+n<=a.size) (hk:i+k<=lo):L2.SM.seg a' i k=L2.SM.seg a i k:=by
 apply Py
 intro q
 rw[iS,iS]
 split
 ·rename_i hq
  rw[<- Nr,<- Nr,p.eq,Ow,Nq (by grind),PR,if_pos (by lia)]
 ·rfl
theorem Prt.refl {lo n:Nat}:Prt a a lo n (L2.SM.seg a lo n):=⟨fw a lo n,.refl _⟩
end
section
variable {prog:NC}{w:N4}{A:N1}{E:Ng->Nk->Prop}{s:Nk}{κ:Qy}{P:N3->Prop}{kk:N3->Int}
theorem ur {β:Type}{f:Nat->β->StateT NF Sem (ForInStep β)} (I:Nat->β->NF->Prop) (D:β->NF->Prop) (hi:Nat)
  (step:∀x b st,x<hi->I x b st->Gv prog w A E s (f x b) st fun r st'=>match r with | .done b'=>D b' st' | .yield b'=>I (x+1) b' st')
  (fin:∀b st,I hi b st->D b st):∀(n lo:Nat) (b:β) (st:NF),lo+n=hi->I lo b st->Gv prog w A E s (forIn (SJ lo n) b f) st D
 | 0,lo,b,st,e,h=>kasC_nil ⟨rfl,fin b st ((show lo=hi by lia) ▸ h)⟩
 | n+1,lo,b,st,e,h=>by
  have ih:=ur I D hi step fin n (lo+1)
  refine kasC_cons (Ov (step lo b st (by lia) h) (fun r s' h'=>?_) fun _ _ e=>e)
  obtain⟨e',h'⟩:=h'
  subst e'
  revert h'
  cases r.1 with
  | done b'=>simp
  | yield b'=>intro h';exact ih b' r.2 (by lia) h'
theorem Gv.xD {st:NF} (I:Nat->β->NF->Prop) (hab:a<=b) (h0:I a c st)
  (step:∀x z st,x<b->I x z st->Gv prog w A E s (f x z) st fun r st'=>match r with | .done b'=>Q b' st' | .yield b'=>I (x+1) b' st')
  (fin:∀z st,I b z st->Q z st):Gv prog w A E s (forIn [a:b] c f) st Q:=
 kasC_range (ur I Q b step fin (b - a) a c st (by lia) h0)
structure Ok (κ) (P:N3->Prop) (kk:N3->Int) (st:NF):Prop where
 kind:kindOf st=κ
 fail:failedOf st=none
 all:∀x∈arrOf st,P x
 nd:((arrOf st).toList.map kk).Nodup
theorem Gv.ltAt {st:NF} (c:Cmp prog w A s κ P kk) (o:Ok κ P kk st) (hi) (hj:j<(arrOf st).size) (h:Q (some (decide (kk (arrOf st)[i]<kk (arrOf st)[j]))) st):Gv prog w A E s (ltAt' i j) st Q:=by
 refine Gv.bind (Gv.get ?_)
 refine Gv.bind (Gv.elem (get_some hi) ?_)
 refine Gv.bind (Gv.elem (get_some hj) ?_)
 exact Gv.ltC c (o.all _ (NO hi)) (o.all _ (NO hj)) o.kind h
structure Arr (st st':NF) (a'):Prop where
 kind:kindOf st'=kindOf st
 fail:failedOf st'=failedOf st
 pend:pendingOf st'=pendingOf st
 arr:arrOf st'=a'
theorem Arr.refl {st:NF}:Arr st st (arrOf st):=⟨rfl,rfl,rfl,rfl⟩
theorem Arr.ok {st st':NF}{lo n:Nat} (o:Ok κ P kk st) (r:Arr st st' a') (p:Prt (arrOf st) a' lo n S):Ok κ P kk st':=⟨r.kind.trans o.kind,r.fail.trans o.fail,by rw[r.arr];exact p.P o.all,by rw[r.arr];exact p.nd o.nd⟩
theorem tU {lo nrem n0:Nat}{st:NF}{f:Nat->Option (Option Nat) × Nat->StateT NF Sem (ForInStep (Option (Option Nat) × Nat))}{R:Option (Option Nat) × Nat->NF->Prop} (hn:lo+nrem<=(arrOf st).size) (nd:((arrOf st).toList.map kk).Nodup) (h1:1<=n0) (h2:n0<=nrem) (s0:Srt kk (seg (arrOf st) lo n0))
  (hf:∀x n T,1<=n->(hl:lo+n<(arrOf st).size)->T (if kk (arrOf st)[lo+n]<kk ((arrOf st)[lo+n - 1]'(by lia)) then .done (none,n) else .yield (none,n+1)) st->Gv prog w A E s (f x (none,n)) st T)
  (hR:∀n,n0<=n->n<=nrem->Srt kk (seg (arrOf st) lo n)->(n<nrem->∀hl:lo+n<(arrOf st).size,kk (arrOf st)[lo+n]<kk ((arrOf st)[lo+n - 1]'(by lia)))->R (none,n) st):Gv prog w A E s (forIn [n0:nrem] (none,n0) f) st R:=by
 refine Gv.xD (fun x z st'=>st'=st/\z=(none,x)/\n0<=x/\Srt kk (seg (arrOf st) lo x)) h2 ⟨rfl,rfl,Ni _,s0⟩ (fun x z st' hx hz=>?_) (fun z st' hz=>?_)
 ·obtain⟨rfl,rfl,g1,g2⟩:=hz
  have hl:lo+x<(arrOf st').size:=by lia
  refine hf x x _ (by lia) hl ?_
  by_cases lt:kk (arrOf st')[lo+x]<kk ((arrOf st')[lo+x - 1]'(by lia))
  ·rw[if_pos lt]
   exact hR x g1 (by lia) g2 fun _ _=>lt
  ·rw[if_neg lt]
   have ne:=qo nd hl (show lo+x - 1<(arrOf st').size by lia) (by lia)
   exact⟨rfl,rfl,by lia,D5 g2 (by lia) hl (by lia)⟩
 ·obtain⟨rfl,rfl,g1,g2⟩:=hz
  exact hR nrem g1 (Ni _) g2 fun h=>absurd h (OD _)
theorem uu {lo nrem:Nat}{st:NF} (c:Cmp prog w A s κ P kk) (o:Ok κ P kk st) (hn:lo+nrem<=(arrOf st).size) (h1:1<=nrem)
  (h:∀n a' st' S,1<=n->n<=nrem->Arr st st' a'->Prt (arrOf st) a' lo n S->Srt kk S->Q (some n) st'):Gv prog w A E s (countRun' lo nrem) st Q:=by
 have F:∀(st:NF),Ok κ P kk st->lo+nrem<=(arrOf st).size->∀n,1<=n->lo+n<(arrOf st).size->∀{T:Option Bool->NF->Prop},(∀(hl:lo+n<(arrOf st).size),T (some (decide (kk (arrOf st)[lo+n]<kk ((arrOf st)[lo+n - 1]'(by lia))))) st)->Gv prog w A E s (ltAt' (lo+n) (lo+n - 1)) st T:=fun st o hn n h1 hl T hT=>Gv.ltAt c o hl (by lia) (hT hl)
 with_unfolding_all refine Gv.bind ?_
 refine tU hn o.nd (Ni _) h1 (Ds (by lia)) (fun x n T g1 hl hT=>?_) (fun n g1 g2 g3 g4=>?_)
 ·refine Gv.bind (F st o hn n g1 hl fun hl=>?_)
  dsimp only
  by_cases lt:kk (arrOf st)[lo+n]<kk ((arrOf st)[lo+n - 1]'(by lia))
  ·rw[decide_eq_true lt];rw[if_pos lt] at hT;exact Gv.pure hT
  ·rw[decide_eq_false lt];rw[if_neg lt] at hT;exact Gv.pure hT
 refine bC (fun e=>?_) (fun e=>?_)
 ·exact Gv.pure (h n _ st _ g1 g2 Arr.refl Prt.refl g3)
 have e':¬ n=nrem:=by simp_all
 refine bC (fun e2=>?_) (fun e2=>?_)
 ·-- it rose
  refine Gv.bind (Gv.ltAt c o (show lo<(arrOf st).size by lia) (show lo+n - 1<(arrOf st).size by lia) ?_)
  have lt:kk (arrOf st)[lo]<kk (arrOf st)[lo+n - 1]:=kF (by lia) g3 (Ni _) (by lia) (by lia)
  rw[decide_eq_true lt]
  dsimp only
  exact Gv.pure (h n _ st _ g1 g2 Arr.refl Prt.refl g3)
 have n1:n=1:=by lia
 subst n1
 refine Gv.bind (Gv.rule ?_)
 have d2:Dsc kk (seg (arrOf st) lo 2):=by
  have l:=g4 (by lia) (by lia)
  refine yz (n:=1) ?_ (Ni _) (by lia) l
  rw[iX (n:=0) (by lia)]
  have e0:seg (arrOf st) lo 0=[]:=by rfl
  rw[e0];exact O7 _ _
 refine Gv.bind (Gv.mono (Q:=fun z st'=>st'=st/\∃m,z=(none,m,0)/\2<=m/\m<=nrem/\Dsc kk (seg (arrOf st) lo m)) (Gv.xD (fun x z st'=>st'=st/\z=(none,x,0)/\2<=x/\Dsc kk (seg (arrOf st) lo x)) (by lia) ⟨rfl,rfl,by lia,d2⟩ (fun x z st' hx hz=>?_) (fun z st' hz=>?_)) (fun z st' hz=>?_))
 ·obtain⟨rfl,rfl,q1,q2⟩:=hz
  have hl:lo+x<(arrOf st').size:=by lia
  refine Gv.bind (F st' o hn x (by lia) hl fun hl=>?_)
  dsimp only
  by_cases lt:kk (arrOf st')[lo+x]<kk ((arrOf st')[lo+x - 1]'(by lia))
  ·rw[decide_eq_true lt,if_pos rfl,if_neg (by lia)]
   exact Gv.pure ⟨rfl,rfl,by lia,yz q2 (by lia) hl lt⟩
  ·rw[decide_eq_false lt,if_neg (by decide)]
   have ne:=qo o.nd hl (show lo+x - 1<(arrOf st').size by lia) (by lia)
   have gt:kk ((arrOf st')[lo+x - 1]'(by lia))<kk (arrOf st')[lo+x]:=by lia
   refine Gv.bind (Gv.ltAt c o (show lo+x - 1<(arrOf st').size by lia) hl ?_)
   rw[decide_eq_true gt]
   dsimp only
   rw[if_pos rfl]
   exact Gv.pure ⟨rfl,x,rfl,q1,by lia,q2⟩
 ·simp_all
 ·obtain⟨rfl,m,rfl,q1,q2,q3⟩:=hz
  dsimp only
  rw[if_neg (by lia)]
  have pr:Prt (arrOf st') (mirror (arrOf st') lo (lo+m) ((lo+m - lo) / 2)) lo m (seg (arrOf st') lo m).reverse:=by
   refine⟨?_,List.reverse_perm _⟩
   have:=u0 (a:=arrOf st') (show lo<=lo+m by lia) (by lia)
   simp_all
  have sr:Srt kk (seg (arrOf st') lo m).reverse:=by unfold Srt;rw[List.pairwise_reverse];exact q3
  with_unfolding_all refine Gv.bind (Gv.pq fun st2 g=>?_)
  have r2:Arr st' st2 (mirror (arrOf st') lo (lo+m) ((lo+m - lo) / 2)):=⟨by rw[g],by rw[g],by rw[g],by rw[g];rfl⟩
  clear g
  have o2:=r2.ok o pr
  have hs2:(arrOf st2).size=(arrOf st').size:=by rw[r2.arr];exact pr.size
  have sg:seg (arrOf st2) lo m=(seg (arrOf st') lo m).reverse:=by rw[r2.arr];exact pr.seg (by lia)
  refine Gv.bind ?_
  refine tU (st:=st2) (lo:=lo) (n0:=m) (by lia) o2.nd (by lia) q2 (by simp_all) (fun x n T z1 hl hT=>?_) (fun n z1 z2 z3 z4=>?_)
  ·refine Gv.bind (F st2 o2 (by lia) n z1 hl fun hl=>?_)
   dsimp only
   by_cases lt:kk (arrOf st2)[lo+n]<kk ((arrOf st2)[lo+n - 1]'(by lia))
   ·rw[decide_eq_true lt,if_pos rfl];rw[if_pos lt] at hT;exact Gv.pure hT
   ·rw[decide_eq_false lt,if_neg (by decide)];rw[if_neg lt] at hT;exact Gv.pure hT
  ·dsimp only
   refine Gv.pure (h n _ st2 (seg (arrOf st2) lo n) (by lia) z2 r2 ?_ z3)
   rw[r2.arr]
   -- the longer part
   refine⟨?_,?_⟩
   ·have e0:=fw (mirror (arrOf st') lo (lo+m) ((lo+m - lo) / 2)) lo n
    rw[e0]
    congr 1
    ·congr 1
     rw[pr.eq,Ow,OG (by grind),List.take_take,Nat.min_self]
    ·rw[pr.eq]
     have hl:(Sq lo (arrOf st').toList++(seg (arrOf st') lo m).reverse).length=lo+m:=by rw[NY,NH,Nu,Ro,cO (by lia)];lia
     rw[Q1,Pf (by lia),Pd,hl,Qe]
     simp_all
   ·have sp1:=cy (mirror (arrOf st') lo (lo+m) ((lo+m - lo) / 2)) lo n m z1
    have sp2:=cy (arrOf st') lo n m z1
    have sg':seg (mirror (arrOf st') lo (lo+m) ((lo+m - lo) / 2)) lo m=(seg (arrOf st') lo m).reverse:=pr.seg (by lia)
    rw[sp1,sp2,sg']
    have tl:seg (mirror (arrOf st') lo (lo+m) ((lo+m - lo) / 2)) (lo+m) (n - m)=seg (arrOf st') (lo+m) (n - m):=by
     unfold seg
     congr 1
     rw[pr.eq]
     have hl:(Sq lo (arrOf st').toList++(L2.SM.seg (arrOf st') lo m).reverse).length=lo+m:=by rw[NY,NH,Nu,Ro,cO (by lia)];lia
     grind
    grind
end
section
variable {prog:NC}{w:N4}{A:N1}{E:Ng->Nk->Prop}{s:Nk}{κ:Qy}{P:N3->Prop}{kk:N3->Int}
theorem Prt.head {i m lo:Nat} (p:Prt a a' i m S) (h1:lo<=i) (h3:i<=a.size):a'.toList.take lo=a.toList.take lo:=by
 rw[p.eq,Ow,OG (by simp_all),List.take_take,RZ h1]
theorem Prt.tail (p:Prt a a' i m S) (h2:i+m<=hi) (h3:i+m<=a.size):a'.toList.drop hi=a.toList.drop hi:=by
 have hS:S.length=m:=by rw[p.perm.length_eq,cO h3]
 have hl:(Sq i a.toList++S).length=i+m:=by grind
 rw[p.eq,Q1,Pf (by lia),Pd,Qe]
 simp_all
theorem Prt.widen {i m lo n:Nat} (p:Prt a a' i m S) (h1:lo<=i) (h2:i+m<=lo+n) (h3:lo+n<=a.size):Prt a a' lo n (L2.SM.seg a' lo n):=by
 have tk:=p.head h1 (by lia)
 have dp:=p.tail h2 (by lia)
 refine⟨by rw[<- tk,<- dp];exact fw a' lo n,?_⟩
 have e:=p.all
 rw[fw a' lo n,fw a lo n,tk,dp,List.perm_append_right_iff,List.perm_append_left_iff] at e
 exact e
theorem Prt.trans {lo n:Nat} (p:Prt a a' lo n S) (q:Prt a' a'' lo n S') (h3:lo+n<=a.size):Prt a a'' lo n S':=by
 refine⟨?_,q.perm.trans (by rw[p.seg h3];exact p.perm)⟩
 rw[q.eq,p.head (Ni _) (by lia),p.tail (Ni _) h3]
theorem Es {a a'':Array N3}{lo k l:Nat} (hk:lo+k<a.size) (hl:l<=k) (sr:Srt kk (seg a lo k)) (lt:∀i,(hi:lo+i<a.size)->i<l->kk a[lo+i]<kk a[lo+k]) (gt:∀i,(hi:lo+i<a.size)->l<=i->i<k->kk a[lo+k]<kk a[lo+i])
  (p:Prt a a'' (lo+l) (k - l+1) (a[lo+k]::seg a (lo+l) (k - l))):Srt kk (seg a'' lo (k+1)):=by
 have e1:=cy a'' lo (k+1) l (by lia)
 have e2:seg a'' lo l=seg a lo l:=p.before (by lia) (by lia)
 have e3:=p.seg (by lia)
 rw[e1,e2,show k+1 - l=k - l+1 by lia,e3]
 have s1:=sr
 rw[cy a lo k l hl] at s1
 have s2:=NR.mp s1
 refine NR.mpr ⟨s2.1,NZ.mpr ⟨fun y hy=>?_,s2.2.1⟩,fun x hx y hy=>?_⟩
 ·obtain⟨m,hm,m1,m2,rfl⟩:=de (by lia) hy
  have:=gt (m - lo) (by lia) (by lia) (by lia)
  simpa [show lo+(m - lo)=m by lia] using this
 ·rcases Nx.mp hy with rfl | hy
  ·obtain⟨m,hm,m1,m2,rfl⟩:=de (by lia) hx
   have:=lt (m - lo) (by lia) (by lia)
   simpa [show lo+(m - lo)=m by lia] using this
  ·exact s2.2.2 x hx y hy
theorem o_ {lo n ok:Nat}{st:NF}{Q:Bool->NF->Prop} (c:Cmp prog w A s κ P kk) (o:Ok κ P kk st) (hn:lo+n<=(arrOf st).size) (h1:1<=ok) (h2:ok<=n) (s0:Srt kk (seg (arrOf st) lo ok))
  (h:∀a' st',Arr st st' a'->Prt (arrOf st) a' lo n (seg a' lo n)->Srt kk (seg a' lo n)->Q true st'):Gv prog w A E s (binarySort' lo n ok) st Q:=by
 with_unfolding_all refine Gv.bind ?_
 refine Gv.mono (Q:=fun z st'=>z=(none,())/\∃a',Arr st st' a'/\Prt (arrOf st) a' lo n (seg a' lo n)/\Srt kk (seg a' lo n)) (Gv.xD (fun x z st'=>z=(none,())/\∃a',Arr st st' a'/\Prt (arrOf st) a' lo n (seg a' lo n)/\Srt kk (seg a' lo x)/\1<=x) (by lia) ⟨rfl,_,Arr.refl,Prt.refl,by rw[Nat.max_eq_left h1];exact s0,by lia⟩ (fun k z st1 hk hz=>?_) (fun z st1 hz=>?_)) (fun z st1 hz=>?_)
 ·obtain⟨rfl,a1,r1,p1,g1,g2⟩:=hz
  have o1:=r1.ok o p1
  have hs1:(arrOf st1).size=(arrOf st).size:=by rw[r1.arr];exact p1.size
  have ha1:=r1.arr
  have hk1:lo+k<(arrOf st1).size:=by lia
  refine Gv.bind (Gv.mono (Q:=fun z st2=>st2=st1/\∃l r,z=(none,l,r)/\l<=k/\(∀i,(hi:lo+i<(arrOf st1).size)->i<l->kk (arrOf st1)[lo+i]<kk (arrOf st1)[lo+k])/\(∀i,(hi:lo+i<(arrOf st1).size)->l<=i->i<k->kk (arrOf st1)[lo+k]<kk (arrOf st1)[lo+i])) (Gv.range (fun m z st2=>st2=st1/\∃l r,z=(none,l,r)/\l<=r/\r<=k/\r - l<=m/\(∀i,(hi:lo+i<(arrOf st1).size)->i<l->kk (arrOf st1)[lo+i]<kk (arrOf st1)[lo+k])/\(∀i,(hi:lo+i<(arrOf st1).size)->r<=i->i<k->kk (arrOf st1)[lo+k]<kk (arrOf st1)[lo+i])) ⟨rfl,0,k,rfl,Ox _,Ni _,by lia,fun i hi z=>absurd z (Qw _),fun i hi z1 z2=>by lia⟩ (fun x m z st2 hz=>?_) (fun z st2 hz=>?_)) (fun z st2 hz=>?_))
  ·obtain⟨rfl,l,r,rfl,b1,b2,b3,b4,b5⟩:=hz
   by_cases hl:l ≥ r
   ·rw[if_pos hl]
    have:l=r:=by lia
    subst this
    exact Gv.pure ⟨rfl,l,l,rfl,b2,b4,b5⟩
   ·rw[if_neg hl]
    have hm:lo+(l+r) / 2<(arrOf st2).size:=by lia
    have sr:∀{i j:Nat},(hij:i<j)->(hj:j<k)->kk ((arrOf st2)[lo+i]'(by lia))<kk ((arrOf st2)[lo+j]'(by lia)):=fun{i j} hij hj=>by
     have g1':Srt kk (seg (arrOf st2) lo k):=by rw[ha1];exact g1
     exact kF (by lia) g1' (by lia) (by lia) (by lia)
    refine Gv.bind (Gv.ltAt c o1 hk1 hm ?_)
    dsimp only
    by_cases lt:kk (arrOf st2)[lo+k]<kk (arrOf st2)[lo+(l+r) / 2]
    ·rw[decide_eq_true lt]
     refine Gv.pure ⟨rfl,l,(l+r) / 2,rfl,by lia,by lia,by lia,b4,fun i hi z1 z2=>?_⟩
     rcases OR z1 with z | z
     ·have:=sr z z2;lia
     ·subst z;exact lt
    ·rw[decide_eq_false lt]
     have ne:=qo o1.nd hk1 hm (by lia)
     refine Gv.pure ⟨rfl,(l+r) / 2+1,r,rfl,by lia,by lia,by lia,fun i hi z1=>?_,b5⟩
     rcases OR (show i<=(l+r) / 2 by lia) with z | z
     ·have:=sr z (show(l+r) / 2<k by lia);lia
     ·subst z;lia
  ·obtain⟨rfl,l,r,rfl,b1,b2,b3,b4,b5⟩:=hz
   have:l=r:=by lia
   subst this
   exact⟨rfl,l,l,rfl,b2,b4,b5⟩
  ·obtain⟨rfl,l,r,rfl,b2,b4,b5⟩:=hz
   have bl:=t_ (a:=arrOf st2) (show lo+l<=lo+k by lia) hk1
   rw[show lo+k - (lo+l)=k - l by lia] at bl
   have p2:Prt (arrOf st2) (bubble (arrOf st2) (lo+k) (lo+k - (lo+l))) (lo+l) (k - l+1) ((arrOf st2)[lo+k]::seg (arrOf st2) (lo+l) (k - l)):=by
    refine⟨?_,?_⟩
    ·rw[show lo+k - (lo+l)=k - l by lia,bl,show lo+l+(k - l+1)=lo+k+1 by lia]
    ·rw[iX (by lia)]
     simp only[show lo+l+(k - l)=lo+k by lia]
     exact(P8 _ _).symm
   with_unfolding_all refine Gv.bind (Gv.pq fun st3 g=>?_)
   have r3:Arr st2 st3 (bubble (arrOf st2) (lo+k) (lo+k - (lo+l))):=⟨by rw[g],by rw[g],by rw[g],by rw[g];rfl⟩
   clear g
   have p3:=p2.widen (lo:=lo) (n:=n) (by lia) (by lia) (by lia)
   rw[ha1] at p3
   have p4:=p1.trans p3 hn
   rw[<- ha1] at p4
   refine Gv.pure ⟨rfl,_,⟨r3.kind.trans r1.kind,r3.fail.trans r1.fail,r3.pend.trans r1.pend,r3.arr⟩,p4,?_,by lia⟩
   exact Es hk1 b2 (by rw[ha1];exact g1) b4 b5 p2
 ·obtain⟨rfl,a1,r1,p1,g1,g2⟩:=hz
  exact⟨rfl,a1,r1,p1,g1⟩
 ·obtain⟨rfl,a1,r1,p1,g1⟩:=hz
  dsimp only
  exact Gv.pure (h a1 st1 r1 p1 g1)
end
section
variable {prog:NC}{w:N4}{A:N1}{E:Ng->Nk->Prop}{s:Nk}{κ:Qy}{P:N3->Prop}{kk:N3->Int}
theorem Prt.after {i m lo n:Nat} (p:Prt a a' i m S) (h2:i+m<=lo) (h3:i+m<=a.size):L2.SM.seg a' lo n=L2.SM.seg a lo n:=by
 unfold L2.SM.seg
 rw[p.tail h2 h3]
noncomputable def Rn (kk:N3->Int) (a:Array N3):Nat->List (Nat × Nat × Nat)->Nat->Prop
 | s,[],lo=>s=lo
 | s,x::r,lo=>x.1=s/\1<=x.2.1/\Srt kk (seg a s x.2.1)/\Rn kk a (s+x.2.1) r lo
theorem Rn.le {a:Array N3}:∀{L:List (Nat × Nat × Nat)}{s lo:Nat},Rn kk a s L lo->s+L.length<=lo
 | [],s,lo,h=>by have:s=lo:=h;grind
 | x::r,s,lo,h=>by have:=Rn.le h.2.2.2;have:=h.2.1;grind
theorem Rn.app {a:Array N3}:∀{X Y:List (Nat × Nat × Nat)}{s lo:Nat},Rn kk a s (X++Y) lo↔∃m,Rn kk a s X m/\Rn kk a m Y lo
 | [],Y,s,lo=>⟨fun h=>⟨s,rfl,h⟩,fun⟨m,h1,h2⟩=>by have:s=m:=h1;simp_all⟩
 | x::X,Y,s,lo=>by
  constructor
  ·intro h
   obtain⟨m,h1,h2⟩:=Rn.app.mp h.2.2.2
   exact⟨m,⟨h.1,h.2.1,h.2.2.1,h1⟩,h2⟩
  ·intro⟨m,h1,h2⟩
   exact⟨h1.1,h1.2.1,h1.2.2.1,Rn.app.mpr ⟨m,h1.2.2.2,h2⟩⟩
theorem Rn.CI {a a':Array N3}:∀{L:List (Nat × Nat × Nat)}{s lo:Nat},Rn kk a s L lo->(∀i k,s<=i->i+k<=lo->seg a' i k=seg a i k)->Rn kk a' s L lo
 | [],s,lo,h,_=>h
 | x::r,s,lo,h,e=>by
  have l:=Rn.le h.2.2.2
  refine⟨h.1,h.2.1,?_,Rn.CI h.2.2.2 fun i k h1 h2=>e i k (by lia) h2⟩
  rw[e s x.2.1 (Ni _) (by lia)];exact h.2.2.1
theorem Rn.pow {a:Array N3}:∀{L L':List (Nat × Nat × Nat)}{s lo:Nat},Rn kk a s L lo->L'.map (fun x=>(x.1,x.2.1))=L.map (fun x=>(x.1,x.2.1))->Rn kk a s L' lo
 | [],[],s,lo,h,_=>h
 | [],_::_,s,lo,h,e=>by simp at e
 | _::_,[],s,lo,h,e=>by simp at e
 | x::r,y::r',s,lo,h,e=>by
  simp only[ND,RY,Prod.mk.injEq] at e
  obtain⟨⟨e1,e2⟩,e3⟩:=e
  refine⟨e1.trans h.1,by rw[e2];exact h.2.1,by rw[e2];exact h.2.2.1,?_⟩
  rw[e2];exact Rn.pow h.2.2.2 e3
structure J (κ) (P) (kk) (st0 st) (lo):Prop where
 ok:Ok κ P kk st
 perm:(arrOf st).toList.Perm (arrOf st0).toList
 runs:Rn kk (arrOf st) 0 (pendingOf st).toList lo
 le:lo<=(arrOf st).size
theorem J.size {st0 st:NF}{lo:Nat} (j:J κ P kk st0 st lo):(arrOf st).size=(arrOf st0).size:=by have:=j.perm.length_eq;omega
theorem iW {i lo:Nat}{st0 st:NF}{Q:Bool->NF->Prop} (c:Cmp prog w A s κ P kk) (j:J κ P kk st0 st lo) (hi:i+2<=(pendingOf st).size)
  (h:∀st',J κ P kk st0 st' lo->(pendingOf st').size+1=(pendingOf st).size->(∀q k,lo<=q->seg (arrOf st') q k=seg (arrOf st) q k)->Q true st'):Gv prog w A E s (mergeAt' i) st Q:=by
 have hl:i+2<=(pendingOf st).toList.length:=by simpa using hi
 obtain⟨X,x,y,Y,e,hX⟩:∃X x y Y,(pendingOf st).toList=X++x::y::Y/\X.length=i:=by
  refine⟨(pendingOf st).toList.take i,(pendingOf st).toList[i],(pendingOf st).toList[i+1],(pendingOf st).toList.drop (i+2),?_,by rw[NH];lia⟩
  rw[<- OB,<- OB,Od]
 have rn:=j.runs
 rw[e] at rn
 obtain⟨m,r1,r2⟩:=Rn.app.mp rn
 obtain⟨x1,x2,x3⟩:=x
 obtain⟨y1,y2,y3⟩:=y
 obtain⟨q1,q2,q3,q4,q5,q6,q7⟩:=r2
 dsimp only at q1 q2 q3 q4 q5 q6 q7
 subst q1
 subst q4
 have l7:=q7.le
 have hs:=j.le
 have p1:(pendingOf st)[i]?=some (x1,x2,x3):=by rw[<- Nr,e,Ny (by lia),hX,Nat.sub_self];rfl
 have p2:(pendingOf st)[i+1]?=some (x1+x2,y2,y3):=by rw[<- Nr,e,Ny (by lia),hX,Nat.add_sub_cancel_left];rfl
 refine xE c j.ok.kind j.ok.fail j.ok.all j.ok.nd p1 p2 q2 q5 (by lia) q3 q6 (fun st' M k1 f1 pd1 a1 pm sm=>?_)
 have pr:Prt (arrOf st) (arrOf st') x1 (x2+y2) M:=⟨by rw[<- Nat.add_assoc];exact a1,pm⟩
 have pl:(pendingOf st').toList=X++(x1,x2+y2,x3)::Y:=by
  rw[pd1]
  have e1:(((pendingOf st).setIfInBounds i (x1,x2+y2,x3)).eraseIdxIfInBounds (i+1)).toList=((pendingOf st).toList.set i (x1,x2+y2,x3)).eraseIdx (i+1):=by simp
  rw[e1,e,<- hX]
  simp[List.eraseIdx_append]
  intro hh;lia
 refine h st' ⟨⟨k1,f1,pr.P j.ok.all,pr.nd j.ok.nd⟩,pr.all.trans j.perm,?_,by rw[pr.size];exact hs⟩ ?_ (fun q k hq=>pr.after (by lia) (by lia))
 ·rw[pl]
  refine Rn.app.mpr ⟨x1,r1.CI fun i k h1 h2=>pr.before (by lia) h2,rfl,by show 1<=x2+y2;lia,?_,?_⟩
  ·show Srt kk (seg (arrOf st') x1 (x2+y2))
   rw[pr.seg (by lia)];exact sm
  ·show Rn kk (arrOf st') (x1+(x2+y2)) Y lo
   rw[<- Nat.add_assoc]
   exact q7.CI fun i k h1 h2=>pr.after (by lia) (by lia)
 ·have e1:(pendingOf st').size=(pendingOf st').toList.length:=by simp
  have e2:(pendingOf st).size=(pendingOf st).toList.length:=by simp
  rw[e1,e2,pl,e];simp;lia
end
section
variable {prog:NC}{w:N4}{A:N1}{E:Ng->Nk->Prop}{s:Nk}{κ:Qy}{P:N3->Prop}{kk:N3->Int}
theorem J.part {st0 st st2:NF}{lo n:Nat} (j:J κ P kk st0 st lo) (r:Arr st st2 a2) (p:Prt (arrOf st) a2 lo n S) (hn:lo+n<=(arrOf st).size):J κ P kk st0 st2 lo:=by
 refine⟨r.ok j.ok p,by rw[r.arr];exact p.all.trans j.perm,?_,by rw[r.arr,p.size];lia⟩
 rw[r.arr,r.pend]
 exact j.runs.CI fun i k h1 h2=>p.before hn h2
theorem J.push {st0 st st':NF}{lo n:Nat} (j:J κ P kk st0 st lo) (ek:kindOf st'=kindOf st) (ef:failedOf st'=failedOf st) (ea:arrOf st'=arrOf st) (ep:(pendingOf st').toList.map (fun x=>(x.1,x.2.1))=(pendingOf st).toList.map (fun x=>(x.1,x.2.1))++[(lo,n)]) (h1:1<=n) (hn:lo+n<=(arrOf st).size) (sr:Srt kk (seg (arrOf st) lo n)):J κ P kk st0 st' (lo+n):=by
 refine⟨⟨ek.trans j.ok.kind,ef.trans j.ok.fail,by rw[ea];exact j.ok.all,by rw[ea];exact j.ok.nd⟩,by rw[ea];exact j.perm,?_,by simp_all⟩
 rw[ea]
 refine Rn.pow (L:=(pendingOf st).toList++[(lo,n,0)]) (Rn.app.mpr ⟨lo,j.runs,rfl,h1,sr,rfl⟩) ?_
 simp_all
theorem vF (p:Array (Nat × Nat × Nat)) (i pw lo:Nat) (n:Nat):((p.modify i fun x=>(x.1,x.2.1,pw)).push (lo,n,0)).toList.map (fun x=>(x.1,x.2.1))=p.toList.map (fun x=>(x.1,x.2.1))++[(lo,n)]:=by
 rw[Array.toList_push,Ou]
 congr 1
 apply Py
 intro k
 rw[NN,NN,Nr,Nr,Array.getElem?_modify]
 split
 ·cases p[k]?<;>rfl
 ·rfl
theorem vK (p:Array (Nat × Nat × Nat)) (lo n):(p.push (lo,n,0)).toList.map (fun x=>(x.1,x.2.1))=p.toList.map (fun x=>(x.1,x.2.1))++[(lo,n)]:=by
 simp
theorem vD {st:NF}{Q:Unit->NF->Prop} (c:Cmp prog w A s κ P kk) (o:Ok κ P kk st) (hp:pendingOf st = #[]) (h:∀st',failedOf st'=none->(arrOf st').toList.Perm (arrOf st).toList->Srt kk (arrOf st').toList->Q () st'):Gv prog w A E s sortRuns' st Q:=by
 have j0:J κ P kk st st 0:=⟨o,.refl _,by rw[hp];rfl,Ox _⟩
 with_unfolding_all refine Gv.bind (Gv.get ?_)
 refine Gv.bind (Gv.mono (Q:=fun z st'=>∃lo,z=(none,lo)/\J κ P kk st st' (arrOf st).size) (Gv.range (fun m z st'=>∃lo,z=(none,lo)/\J κ P kk st st' lo/\(arrOf st).size<=lo+m) ⟨0,rfl,j0,by show(arrOf st).size<=0+((arrOf st).size - 0);lia⟩ (fun x m z st1 hz=>?_) (fun z st1 hz=>?_)) (fun z st1 hz=>?_))
 ·obtain⟨lo,rfl,j1,pr⟩:=hz
  have sz1:=j1.size
  have le1:=j1.le
  by_cases hl:lo ≥ (arrOf st).size
  ·rw[if_pos hl]
   have:lo=(arrOf st).size:=by lia
   subst this
   exact Gv.pure ⟨_,rfl,j1⟩
  rw[if_neg hl]
  refine Gv.bind (uu c j1.ok (nrem:=(arrOf st).size - lo) (by lia) (by lia) (fun n a2 st2 S n1 n2 r2 p2 sS=>?_))
  have j2:=j1.part r2 p2 (by lia)
  have s2:Srt kk (seg (arrOf st2) lo n):=by rw[r2.arr,p2.seg (by lia)];exact sS
  have sz2:=j2.size
  dsimp only
  generalize hmr:(minRun' (arrOf st).size (arrOf st).size 0)=mr
  by_cases lt:n<mr
  ·rw[<- hmr] at lt
   refine bC (fun lt'=>?_) (fun nl=>absurd lt nl)
   refine Gv.bind (Gv.rule ?_)
   refine Gv.bind (o_ c j2.ok (n:=min ((arrOf st).size - lo) (minRun' (arrOf st).size (arrOf st).size 0)) (by lia) n1 (by rw[hmr];lia) s2 (fun a3 st3 r3 p3 s3=>?_))
   have hN1:1<=(min ((arrOf st).size - lo) (minRun' (arrOf st).size (arrOf st).size 0)):=by rw[hmr];lia
   have hN2:lo+(min ((arrOf st).size - lo) (minRun' (arrOf st).size (arrOf st).size 0))<=(arrOf st).size:=by lia
   have jX:J κ P kk st st3 lo:=j2.part r3 p3 (by lia)
   have sX:Srt kk (seg (arrOf st3) lo (min ((arrOf st).size - lo) (minRun' (arrOf st).size (arrOf st).size 0))):=by rw[r3.arr];exact s3
   refine Gv.bind (Gv.get ?_)
   split
   ·refine Gv.bind (Gv.mono (Q:=fun z st4=>z=(none,())/\J κ P kk st st4 lo/\Srt kk (seg (arrOf st4) lo (min ((arrOf st).size - lo) (minRun' (arrOf st).size (arrOf st).size 0)))) (Gv.range (fun m z st4=>z=(none,())/\J κ P kk st st4 lo/\Srt kk (seg (arrOf st4) lo (min ((arrOf st).size - lo) (minRun' (arrOf st).size (arrOf st).size 0)))) ⟨rfl,jX,sX⟩ (fun x m z st4 hz=>?_) (fun z st4 hz=>hz)) (fun z st4 hz=>?_))
    ·obtain⟨rfl,j4,s4⟩:=hz
     refine Gv.bind (Gv.get ?_)
     by_cases h2:(pendingOf st4).size > 1
     ·rw[if_pos h2]
      split
      ·refine bC (fun _=>Gv.pure ⟨rfl,j4,s4⟩) (fun _=>?_)
       refine Gv.bind (iW (i:=(pendingOf st4).size - 2) c j4 (by lia) (fun st5 j5 _ e5=>?_))
       exact Gv.pure ⟨rfl,j5,by rw[e5 lo (min ((arrOf st).size - lo) (minRun' (arrOf st).size (arrOf st).size 0)) (Ni _)];exact s4⟩
      ·exact Gv.pure ⟨rfl,j4,s4⟩
     ·rw[if_neg h2]
      exact Gv.pure ⟨rfl,j4,s4⟩
    ·obtain⟨rfl,j4,s4⟩:=hz
     dsimp only
     refine Gv.bind (Gv.pq fun st5 g5=>?_)
     refine Gv.bind (Gv.pq fun st6 g6=>?_)
     have j6:J κ P kk st st6 (lo+(min ((arrOf st).size - lo) (minRun' (arrOf st).size (arrOf st).size 0))):=by
      refine j4.push (by rw[g6,g5]) (by rw[g6,g5]) (by rw[g6,g5]) ?_ hN1 (by have:=j4.size;lia) s4
      rw[g6,g5]
      exact vF _ _ _ _ _
     exact Gv.pure ⟨lo+(min ((arrOf st).size - lo) (minRun' (arrOf st).size (arrOf st).size 0)),rfl,j6,by lia⟩
   ·refine Gv.bind (Gv.pq fun st6 g6=>?_)
    have j6:J κ P kk st st6 (lo+(min ((arrOf st).size - lo) (minRun' (arrOf st).size (arrOf st).size 0))):=by
     refine jX.push (by rw[g6]) (by rw[g6]) (by rw[g6]) ?_ hN1 (by have:=jX.size;lia) sX
     rw[g6]
     exact vK _ _ _
    exact Gv.pure ⟨lo+(min ((arrOf st).size - lo) (minRun' (arrOf st).size (arrOf st).size 0)),rfl,j6,by lia⟩
  ·rw[<- hmr] at lt
   refine bC (fun lt'=>absurd lt' lt) (fun nl=>?_)
   have jX:=j2
   have sX:=s2
   have hN1:1<=n:=n1
   have hN2:lo+n<=(arrOf st).size:=by lia
   refine Gv.bind (Gv.get ?_)
   split
   ·refine Gv.bind (Gv.mono (Q:=fun z st4=>z=(none,())/\J κ P kk st st4 lo/\Srt kk (seg (arrOf st4) lo n)) (Gv.range (fun m z st4=>z=(none,())/\J κ P kk st st4 lo/\Srt kk (seg (arrOf st4) lo n)) ⟨rfl,jX,sX⟩ (fun x m z st4 hz=>?_) (fun z st4 hz=>hz)) (fun z st4 hz=>?_))
    ·obtain⟨rfl,j4,s4⟩:=hz
     refine Gv.bind (Gv.get ?_)
     by_cases h2:(pendingOf st4).size > 1
     ·rw[if_pos h2]
      split
      ·refine bC (fun _=>Gv.pure ⟨rfl,j4,s4⟩) (fun _=>?_)
       refine Gv.bind (iW (i:=(pendingOf st4).size - 2) c j4 (by lia) (fun st5 j5 _ e5=>?_))
       exact Gv.pure ⟨rfl,j5,by rw[e5 lo n (Ni _)];exact s4⟩
      ·exact Gv.pure ⟨rfl,j4,s4⟩
     ·rw[if_neg h2]
      exact Gv.pure ⟨rfl,j4,s4⟩
    ·obtain⟨rfl,j4,s4⟩:=hz
     dsimp only
     refine Gv.bind (Gv.pq fun st5 g5=>?_)
     refine Gv.bind (Gv.pq fun st6 g6=>?_)
     have j6:J κ P kk st st6 (lo+n):=by
      refine j4.push (by rw[g6,g5]) (by rw[g6,g5]) (by rw[g6,g5]) ?_ hN1 (by have:=j4.size;lia) s4
      rw[g6,g5]
      exact vF _ _ _ _ _
     exact Gv.pure ⟨lo+n,rfl,j6,by lia⟩
   ·refine Gv.bind (Gv.pq fun st6 g6=>?_)
    have j6:J κ P kk st st6 (lo+n):=by
     refine jX.push (by rw[g6]) (by rw[g6]) (by rw[g6]) ?_ hN1 (by have:=jX.size;lia) sX
     rw[g6]
     exact vK _ _ _
    exact Gv.pure ⟨lo+n,rfl,j6,by lia⟩
 ·obtain⟨lo,rfl,j1,pr⟩:=hz
  have:=j1.le
  have:=j1.size
  have e:lo=(arrOf st).size:=by lia
  subst e
  exact⟨_,rfl,j1⟩
 ·obtain⟨lo,rfl,j1⟩:=hz
  dsimp only
  have ps:(pendingOf st1).size<=(arrOf st).size:=by have:=j1.runs.le;simpa using this
  refine Gv.bind (Gv.mono (Q:=fun z st4=>z=(none,())/\J κ P kk st st4 (arrOf st).size/\(pendingOf st4).size<=1) (Gv.range (fun m z st4=>z=(none,())/\J κ P kk st st4 (arrOf st).size/\(pendingOf st4).size<=m+1) ⟨rfl,j1,by show(pendingOf st1).size<=(arrOf st).size - 0+1;lia⟩ (fun x m z st4 hz=>?_) (fun z st4 hz=>?_)) (fun z st4 hz=>?_))
  ·obtain⟨rfl,j4,l4⟩:=hz
   refine Gv.bind (Gv.get ?_)
   by_cases h1:(pendingOf st4).size<=1
   ·rw[if_pos h1]
    exact Gv.pure ⟨rfl,j4,h1⟩
   ·rw[if_neg h1]
    refine Gv.bind (iW c j4 ?_ (fun st5 j5 e5 _=>?_))
    ·have g:∀(c:Prop) [Decidable c],(if c then (pendingOf st4).size - 2 - 1 else (pendingOf st4).size - 2)+2<=(pendingOf st4).size:=fun c _=>by split<;>lia
     exact g _
    ·exact Gv.pure ⟨rfl,j5,by lia⟩
  ·obtain⟨rfl,j4,l4⟩:=hz
   exact⟨rfl,j4,by lia⟩
  ·obtain⟨rfl,j4,l4⟩:=hz
   dsimp only
   refine Gv.pure (h st4 j4.ok.fail j4.perm ?_)
   have rn:=j4.runs
   have sz:=j4.size
   have l5:(pendingOf st4).toList.length<=1:=by simpa using l4
   cases e:(pendingOf st4).toList with
   | nil=>
    rw[e] at rn
    have:0=(arrOf st).size:=rn
    have e2:(arrOf st4).toList=[]:=List.length_eq_zero_iff.mp (by rw[Nu];lia)
    rw[e2];exact QI
   | cons x r=>
    rw[e] at rn l5
    have:r=[]:=List.length_eq_zero_iff.mp (by rw[N8] at l5;lia)
    subst this
    obtain⟨r1,r2,r3,r4⟩:=rn
    have r4:0+x.2.1=(arrOf st).size:=r4
    have e2:seg (arrOf st4) 0 x.2.1=(arrOf st4).toList:=by
     unfold seg
     rw[Sa,N2 (by rw[Nu];lia)]
    rw[e2] at r3
    exact r3
end
end L2.SM
namespace L2.Srt
open PySem PySem.W PyProof.Rows PySem.Calls L2.SM
section
variable {prog:NC}{w:N4}{A:N1}{E:Ng->Nk->Prop}{s:Nk}{a:Addr}{vs:List Ng}
theorem sV (vs:List Ng):(vs.toArray.zip vs.toArray).toList=vs.map fun v=>(v,v):=by
 simp only[Array.toList_zip]
 induction vs with
 | nil=>rfl
 | cons v vs ih=>simp_all
theorem pR {n:Nat}{kv:Ng->Int}{P:PySem.Fin->Nk->Prop} (ho:s.heap.get? a=some (seqObj "list" vs.toArray n)) (h2:2<=vs.length) (hz:vs.length<=100000)
  (hk:wpAny (model prog w) A (keyKind' vs.toArray) (fun κ s'=>s'={ s with heap:=cL s.heap a vs }/\Cmp prog w A { s with heap:=cL s.heap a vs } κ (fun x=>x.1∈vs/\x.2=x.1) (fun x=>kv x.1)) (fun _ _=>False) { s with heap:=cL s.heap a vs }) (nd:(vs.map kv).Nodup)
  (h:∀out:List Ng,out.Perm vs->out.Pairwise (fun x y=>kv x<kv y)->P (.done (.ret .none)) { s with heap:=sortedHeap s.heap a vs out.toArray }) :
  wpAny (model prog w) A (Oo.«list.sort» ⟨[.ref a],[]⟩) P E s:=by
 obtain⟨e1,ho1⟩:∃e1,(s.heap.update a (OU fun _=>(#[]:Array Ng))).get? a=some (seqObj "list" #[] e1):=⟨_,RW ho fun _=>#[]⟩
 have hm:(cL s.heap a vs).get? a=some (seqObj "list" #[] e1):=k3 _ (k3 _ ho1)
 rw[list_sort_plain]
 refine gV (RV ho rfl ?_)
 refine gV (Ra ho rfl ?_ (by rw[NB,Oi];lia) (Ox _))
 refine gV (Sh ho1 rfl ?_)
 refine gV (wpAny_newTuple ?_ (by show vs.length<=_;rw[Oi];lia))
 refine gV (Qx ?_ (Ox _))
 refine Oe ?_
 have hn2:¬ vs.toArray.size<2:=by rw[NB];lia
 rw[if_neg hn2,if_neg hn2]
 refine gV (Ov hk (fun κ s0 hk=>?_) fun _ _ x=>x.elim)
 obtain⟨rfl,cm⟩:=hk
 have zl:=sV vs
 have ok:Ok κ (fun x:N3=>x.1∈vs/\x.2=x.1) (fun x=>kv x.1) (NF.mk' κ (vs.toArray.zip vs.toArray) #[] 7 none):=by
  refine⟨rfl,rfl,fun x hx=>?_,?_⟩
  ·have hx:=O5.mpr hx
   rw[zl] at hx
   obtain⟨v,hv,rfl⟩:=Rx.mp hx
   exact⟨hv,rfl⟩
  ·show((vs.toArray.zip vs.toArray).toList.map _).Nodup
   rw[zl,O1];exact nd
 refine gV (Ov (vD (Q:=fun _ st'=>failedOf st'=none/\((arrOf st').map (·.2)).toList.Perm vs/\((arrOf st').map (·.2)).toList.Pairwise (fun x y=>kv x<kv y)) cm ok rfl (fun st' f1 pm sr=>⟨f1,?_,?_⟩)) ?_ fun _ _ e=>e)
 ·have:=pm.map (fun x:N3=>x.2)
  rw[Array.toList_map]
  refine this.trans ?_
  rw[zl,O1]
  have:((fun x:N3=>x.2) ∘ fun v=>(v,v))=(id:Ng->Ng):=rfl
  rw[this,List.map_id]
 ·rw[Array.toList_map,QL]
  refine Rb.imp_of_mem ?_ sr
  intro x y hx hy lt
  have gx:∀z:N3,z∈(arrOf st').toList->z.2=z.1:=fun z hz=>by
   have hz:=pm.mem_iff.mp hz
   rw[zl] at hz
   obtain⟨v,_,rfl⟩:=Rx.mp hz
   rfl
  rw[gx x hx,gx y hy];exact lt
 rintro⟨⟨⟩,st'⟩ s' ⟨rfl,hf,pm,sr⟩
 have hsz:((arrOf st').map (·.2)).size=vs.length:=by have:=pm.length_eq;simpa using this
 refine gV (Sh hm rfl ?_)
 refine gV (Ra hm rfl ?_ (Ox _) (NT (Nat.le_of_eq hsz) (by rw[Oi];lia)))
 rw[hf]
 simp only[bne_self_eq_false]
 have:=h _ pm sr
 exact k5 this
theorem xy (hl:s.heap.IsList l vs.toArray) (h2:2<=vs.length) (hz:vs.length<=100000)
  (hk:wpAny (model prog w) A.in1.in1 (keyKind' vs.toArray) (fun κ s'=>s'={ s with heap:=cL (cu s.heap vs) (s.heap.objs.size+1) vs }/\Cmp prog w A.in1.in1 { s with heap:=cL (cu s.heap vs) (s.heap.objs.size+1) vs } κ (fun x=>x.1∈vs/\x.2=x.1) (fun x=>kv x.1)) (fun _ _=>False) { s with heap:=cL (cu s.heap vs) (s.heap.objs.size+1) vs }) (nd:(vs.map kv).Nodup)
  (h:∀out:List Ng,out.Perm vs->out.Pairwise (fun x y=>kv x<kv y)->Q (.ref (s.heap.objs.size+1)) { s with heap:=sortedAll s.heap vs out.toArray }) :
  wpAny (model prog w) A (call (.builtin "sorted") [.ref l]) Q E s:=by
 refine Qc kind_sorted plain_sorted entry_sorted (Sw _) ?_
 refine gV (k5 ?_)
 refine gV (collect_list hl ?_ (by rw[Oi];lia))
 refine gV (Qx ?_ (by rw[Oi];lia))
 have hsz:((s.heap.push (seqObj "list" #[] 0)).update s.heap.objs.size (OU (·++vs.toArray))).objs.size=s.heap.objs.size+1:=by
  simp
 have hoL:(cu s.heap vs).get? (s.heap.objs.size+1)=some (seqObj "list" vs.toArray 0):=by
  unfold cu;rw[<- hsz];exact Nm _ rfl
 rw[hsz]
 refine gV (Oe (OE R9 ⟨_,hoL,rfl⟩ RX (pR (s:={ s with heap:=cu s.heap vs }) hoL h2 hz hk nd fun out pm sr=>⟨_,rfl,?_⟩) (R_ _)))
 exact k5 ⟨_,rfl,h out pm sr⟩
end
noncomputable def kT:Nat->List Int->Int
 | 0,_=>0
 | _+1,[]=>0
 | n+1,x::r=>(x+1)*100 ^ n+kT n r
noncomputable def pf:List Int->List Int->Bool
 | [],ys=>decide (0<ys.length)
 | _::_,[]=>false
 | x::xs,y::ys=>if x=y then pf xs ys else decide (x<y)
noncomputable def Bd (xs:List Int):Prop:=∀x∈xs,0<=x/\x<=98
theorem uQ:∀(n:Nat){xs:List Int},Bd xs->0<=kT n xs/\kT n xs<100 ^ n
 | 0,xs,_=>by unfold kT;lia
 | n+1,[],_=>by unfold kT;exact⟨Int.le_refl _,SN (by decide)⟩
 | n+1,x::r,b=>by
  have h:=uQ n fun y hy=>b y (ox _ hy)
  have hx:=b x Nt
  unfold kT
  have q1:0<=(x+1)*100 ^ n:=Int.mul_nonneg (by lia) (by lia)
  have q2:(x+1)*100 ^ n<=99*100 ^ n:=O0 (by lia) (by lia)
  lia
theorem Bb:∀(n:Nat){xs ys:List Int},Bd xs->Bd ys->xs.length<=n->ys.length<=n->pf xs ys=decide (kT n xs<kT n ys)
 | n,[],[],_,_,_,_=>by cases n<;>simp[pf]
 | 0,[],y::ys,_,_,_,h=>by simp at h
 | 0,x::xs,ys,_,_,h,_=>by simp at h
 | n+1,[],y::ys,_,by_,_,_=>by
  have h:=(uQ n fun z hz=>by_ z (ox _ hz)).1
  have hy:=by_ y Nt
  have p:(0:Int)<100 ^ n:=SN (by decide)
  have q:0<(y+1)*100 ^ n:=Int.mul_pos (by lia) p
  unfold pf kT
  grind
 | n+1,x::xs,[],bx,_,_,_=>by
  have h:=(uQ n fun z hz=>bx z (ox _ hz)).1
  have hx:=bx x Nt
  have p:(0:Int)<100 ^ n:=SN (by decide)
  have q:0<(x+1)*100 ^ n:=Int.mul_pos (by lia) p
  unfold pf kT
  grind
 | n+1,x::xs,y::ys,bx,by_,lx,ly=>by
  have ih:=Bb n (fun z hz=>bx z (ox _ hz)) (fun z hz=>by_ z (ox _ hz)) (by simp_all) (by simp_all)
  have hX:=uQ n fun z hz=>bx z (ox _ hz)
  have hY:=uQ n fun z hz=>by_ z (ox _ hz)
  unfold pf kT
  by_cases e:x=y
  ·simp_all
  ·rw[if_neg e]
   by_cases z:x<y
   ·have:(x+1+1)*100 ^ n<=(y+1)*100 ^ n:=O0 (by lia) (by lia)
    grind
   ·have:(y+1+1)*100 ^ n<=(x+1)*100 ^ n:=O0 (by lia) (by lia)
    grind
section
variable {prog:NC}{w:N4}{A:N1}{E:Ng->Nk->Prop}{s:Nk}
theorem t8 {fin:Bool}{Q:Bool->Nk->Prop}:∀{us vs:List Ng}{xs ys:List Int} (i:Nat),IntsAre us xs->IntsAre vs ys->fin=decide (xs.length<ys.length)->Q (pf xs ys) s->KatLex prog w A true fin Q (us.zip vs) i s
 | _,_,_,_,i,.nil,.nil,e,h=>by subst e;assumption
 | _,_,_,_,i,.nil,.cons y t r,e,h=>by subst e;assumption
 | _,_,_,_,i,.cons x t r,.nil,e,h=>by subst e;assumption
 | _,_,_,_,i,.cons x t r,.cons y u r',e,h=>by
  refine kat_cons (wpAny_eqBool_int (kat_go (fun e1=>kat_yes ?_) (fun e1=>kat_no ?_)))
  ·have e1:x=y:=by simp_all
   refine t8 (i+1) r r' ?_ ?_
   ·rw[e];simp
   ·unfold pf at h;simp_all
  ·have e1:¬ x=y:=by simp_all
   unfold pf at h
   rw[if_neg e1] at h
   cases i with
   | zero=>exact oneLt_int h
   | succ i=>
    have:((true&&(i+1 == 0)):Bool)=false:=by simp
    exact kat_one _ _ (lt_int h)
end
inductive Tps (h:Heap):List Ng->List (List Int)->Prop
 | nil:Tps h [] []
 | cons {us:Array Ng} {xs:List Int} {vs:List Ng} {xss:List (List Int)}:h.get? a=some o->o.cls=.type "tuple" -> o.data=.seq us k->IntsAre us.toList xs->Tps h vs xss->Tps h (.ref a::vs) (xs::xss)
noncomputable def kvH (h:Heap):Ng->Int
 | .ref a=>match h.get? a with
  | some o=>match o.data with
   | .seq us _=>kT 20 (us.toList.map numOf)
   | _=>0
  | none=>0
 | _=>0
section
variable {prog:NC}{w:N4}{A:N1}{E:Ng->Nk->Prop}{s:Nk}{vs:List Ng}{xss:List (List Int)}{h h':Heap}
theorem Tps.len (r:Tps h vs xss):vs.length=xss.length:=by
 induction r with
 | nil=>rfl
 | cons _ _ _ _ _ ih=>simp[ih]
theorem Tps.keeps (r:Tps h vs xss) (k:∀b o,h.get? b=some o->h'.get? b=some o):Tps h' vs xss:=by
 induction r with
 | nil=>exact .nil
 | cons a b c d _ ih=>exact .cons (k _ _ a) b c d ih
theorem Tps.kv (r:Tps h vs xss):vs.map (kvH h)=xss.map (kT 20):=by
 induction r with
 | nil=>rfl
 | @cons a o k us xs vs xss ha hc hd hi r ih=>
  rw[ND]
  congr 1
  unfold kvH
  simp only[ha,hd,hi.nums]
theorem Tps.mem (r:Tps h vs xss){v:Ng} (hv:v∈vs):∃a o k us xs,v=.ref a/\h.get? a=some o/\o.data=.seq us k/\IntsAre us.toList xs/\xs∈xss/\kvH h v=kT 20 xs:=by
 induction r with
 | nil=>cases hv
 | @cons a o k us xs vs xss ha hc hd hi r ih=>
  rcases Nx.mp hv with rfl | hv
  ·refine⟨a,o,k,us,xs,rfl,ha,hd,hi,Nt,?_⟩
   unfold kvH
   simp only[ha,hd,hi.nums]
  ·obtain⟨a',o',k',us',xs',e1,e2,e3,e4,e5,e6⟩:=ih hv
   exact⟨a',o',k',us',xs',e1,e2,e3,e4,ox _ e5,e6⟩
theorem Tps.j3 (r:Tps h vs xss) (ne:∀xs∈xss,xs≠[]):∃fs,KatTups h vs fs/\fs.length=xss.length/\∀v∈fs,∃x t,v=Pr x t:=by
 induction r with
 | nil=>exact⟨[],KatTups.nil,rfl,by simp⟩
 | @cons a o k us xs vs xss ha hc hd hi r ih=>
  obtain⟨fs,q1,q2,q3⟩:=ih fun xs hx=>ne xs (ox _ hx)
  obtain⟨x,t,ul,e⟩:∃x t ul,us.toList=Pr x t::ul:=by
   have:=ne xs Nt
   generalize us.toList=l at hi
   cases hi with
   | nil=>exact absurd rfl this
   | cons n t r=>exact⟨n,t,_,rfl⟩
  have e0:us[0]?=some (Pr x t):=by rw[<- Nr,e];rfl
  refine⟨.int x t::fs,KatTups.cons ha hc hd e0 q1,by simp[q2],fun v hv=>?_⟩
  rcases Nx.mp hv with rfl | hv
  ·exact⟨x,t,rfl⟩
  ·exact q3 v hv
structure OkT (xss:List (List Int)):Prop where
 h2:2<=xss.length
 hz:xss.length<=100000
 bd:∀xs∈xss,Bd xs/\xs.length<=20
 nd:(xss.map (kT 20)).Nodup
theorem A5 {β γ:Type}{f:β->γ}:∀{out m:List γ},out.Perm m->∀{l:List β},m=l.map f->∃q:List β,q.Perm l/\out=q.map f:=by
 intro out m h
 induction h with
 | nil=>simp
 | cons x _ ih=>
  intro l e
  cases l with
  | nil=>cases e
  | cons b l=>
   injection e with e1 e2
   obtain⟨q,hq,e3⟩:=ih e2
   exact⟨b::q,hq.cons b,by simp_all⟩
 | swap x y l'=>
  intro l e
  cases l with
  | nil=>cases e
  | cons b l=>
   cases l with
   | nil=>simp at e
   | cons c l=>
    simp only[ND,RY] at e
    obtain⟨e1,e2,e3⟩:=e
    exact⟨c::b::l,QU.swap _ _ _,by simp_all⟩
 | trans _ _ ih1 ih2=>
  intro l e
  obtain⟨q,hq,e2⟩:=ih2 e
  obtain⟨q',hq',e3⟩:=ih1 e2
  exact⟨q',hq'.trans hq,e3⟩
theorem range_getD {β:Type} (l) (d:β):l=(Nj l.length).map fun i=>l.getD i d:=by
 apply QZ (by simp)
 simp_all
theorem uc {l:Addr}{Q:Ng->Nk->Prop} (hl:s.heap.IsList l vs.toArray) (r:Tps s.heap vs xss) (ok:OkT xss) (ne:∀xs∈xss,xs≠[])
  (h:∀q:List Nat,q.Perm (Nj xss.length)->(q.map fun i=>kT 20 (xss.getD i [])).Pairwise (· < ·)->Q (.ref (s.heap.objs.size+1)) { s with heap:=sortedAll s.heap vs (Sy (q.map fun i=>vs.getD i OI)) }) :
  wpAny (model prog w) A (call (.builtin "sorted") [.ref l]) Q E s:=by
 have len:=r.len
 have keep:∀b o,s.heap.get? b=some o->(cL (cu s.heap vs) (s.heap.objs.size+1) vs).get? b=some o:=fun b o q=>CC (NA (P1 (Nh q))) (Em q)
 have r1:=r.keeps keep
 obtain⟨fs,t,fl,fi⟩:=r1.j3 ne
 have h2:=ok.h2
 have hz:=ok.hz
 refine xy hl (by lia) (by lia) ?_ (by rw[r1.kv];exact ok.nd) (fun out pm sr=>?_)
 ·refine kat_kind (T:=.type "int") t (by lia) (fun v hv=>?_) (by decide +kernel) ?_
  ·obtain⟨x,tk,rfl⟩:=fi v hv
   exact .now
  ·rw[show(QG "int" != QG "tuple")=true by decide +kernel]
   refine⟨rfl,fun x y hx hy C hc=>?_⟩
   obtain⟨a,oa,ka,ua,xa,e1,ga,da,ia,ma,va⟩:=r1.mem hx.1
   obtain⟨b,ob,kb,ub,xb,e2,gb,db,ib,mb,vb⟩:=r1.mem hy.1
   have hd:decide (kvH (cL (cu s.heap vs) (s.heap.objs.size+1) vs) x.1<kvH (cL (cu s.heap vs) (s.heap.objs.size+1) vs) y.1)=pf xa xb:=by
    simp only[va,vb]
    exact(Bb 20 (ok.bd _ ma).1 (ok.bd _ mb).1 (ok.bd _ ma).2 (ok.bd _ mb).2).symm
   rw[hd] at hc
   rw[e1,e2]
   refine kat_lt ga da gb db (t8 0 ia ib ?_ hc)
   have l1:ua.size=xa.length:=by rw[<- ia.nums,Nw,Nu]
   have l2:ub.size=xb.length:=by rw[<- ib.nums,Nw,Nu]
   rw[l1,l2]
 ·obtain⟨q,hq,e⟩:=A5 pm (range_getD vs OI)
  rw[e]
  rw[len] at hq
  refine h q hq ?_
  rw[e,QL] at sr
  rw[QL]
  refine Rb.imp_of_mem ?_ sr
  intro i j hi hj lt
  have kq:∀i∈q,kvH (cL (cu s.heap vs) (s.heap.objs.size+1) vs) (vs.getD i OI)=kT 20 (xss.getD i []):=fun i hi=>by
   have hi':i<xss.length:=by have:=hq.mem_iff.mp hi;simpa using this
   have hv:i<vs.length:=by lia
   have kk:=r1.kv
   have e1:(vs.map (kvH (cL (cu s.heap vs) (s.heap.objs.size+1) vs)))[i]'(by simpa using hv)=(xss.map (kT 20))[i]'(by simpa using hi'):=by simp only[kk]
   simpa [hv,hi'] using e1
  rw[kq i hi,kq j hj] at lt
  exact lt
end
end L2.Srt
namespace L2
open PySem PySem.Spec PyProof.Rows L2.Srt
inductive TpV (K) (H):List V->List (List Int)->Prop
 | nil:TpV K H [] []
 | cons {xs:List V} {xss:List (List Int)}:SqT K H a (ns.map V.int)->TpV K H xs xss->TpV K H (.ref a::xs) (ns::xss)
theorem TpV.len {K:ab} (r:TpV K H xs xss):xs.length=xss.length:=by
 induction r with
 | nil=>rfl
 | cons _ _ ih=>simp[ih]
theorem nY:∀{ns:List Int}{us:List Ng},Vals (ns.map V.int) us->IntsAre us ns
 | [],_,.nil=>.nil
 | n::ns,_,.cons ⟨t,e⟩ r=>by subst e;exact .cons n t (nY r)
section
variable {X:Cx}
theorem Inv.tps {σ:St} (I:Inv X pins σ H s) (r:TpV X.K H xs xss):∀{us:List Ng},Vals xs us->Tps s.heap us xss:=by
 induction r with
 | nil=>intro us v;cases v;exact .nil
 | cons h _ ih=>
  intro us v
  cases v with
  | cons ru rv=>
   cases ru
   obtain⟨its,rt,pl,hz⟩:=I.tuple h
   obtain⟨o,ho,hc,n,hd⟩:=pl
   exact .cons ho hc hd (by simpa using nY rt) (ih rv)
theorem wV:bB X (.builtin "sorted") (fun vs H Q=>∃p xs xss,vs=[.ref p]/\SqL X.K H p xs/\TpV X.K H xs xss/\OkT xss/\(∀ns∈xss,ns≠[]) ∧
  ∀l (q:List Nat),q.Perm (Nj xss.length)->(q.map fun i=>kT 20 (xss.getD i [])).Pairwise (· < ·)->H l=none->Q (.ref l) (upd H l (.lst (q.map fun i=>xs.getD i .non)))):=by
 intro pins s σ H xs0 us Q I r h
 obtain⟨p,xs,xss,rfl,hq,pr,ok,ne,q⟩:=h
 obtain⟨u,rfl,rx⟩:=vals1 r
 cases rx
 obtain⟨its,rv,pl,hz⟩:=I.list hq
 refine uc pl.isList (I.tps pr rv) ok ne fun a pm up=>?_
 obtain⟨k,hk⟩:=Sx s.heap its (Sy (a.map fun i=>its.getD i OI))
 have hn:=I.hok.fresh (Qj _)
 have lx:=pr.len
 have al:a.length=xss.length:=by rw[pm.length_eq,P5]
 have len:(a.map fun i=>xs.getD i V.non).length<=sizeLine:=by
  simp_all
 have vp:=qG rv a (fun i hi=>by
  grind)
 refine⟨.ref (s.heap.objs.size+1),upd H (s.heap.objs.size+1) (.lst (a.map fun i=>xs.getD i .non)),I.laid (fun _ _ z=>Sn z) (Qj _) ⟨len,a.map fun i=>its.getD i OI,k,vp,?_⟩,rfl,q _ a pm up hn⟩
 rw[hk]
end
end L2
namespace L2.FE
open PySem PySem.Spec PyProof.Rows L2.Srt
noncomputable def wM (x:List Int):List (List Int)->List (List Int)
 | []=>[x]
 | y::r=>if kT 20 x<=kT 20 y then x::y::r else y::wM x r
noncomputable def l8:List (List Int)->List (List Int)
 | []=>[]
 | x::r=>wM x (l8 r)
theorem lG (x:List Int):∀l,(wM x l).Perm (x::l)
 | []=>.refl _
 | y::r=>by
  unfold wM
  split
  ·rfl
  ·exact((lG x r).cons y).trans (.swap x y r)
theorem n5:∀l,(l8 l).Perm l
 | []=>.refl _
 | x::r=>(lG x _).trans ((n5 r).cons x)
theorem lK (x:List Int):∀l,l.Pairwise (fun a b=>kT 20 a<=kT 20 b)->(wM x l).Pairwise (fun a b=>kT 20 a<=kT 20 b)
 | [],_=>by simp[wM]
 | y::r,h=>by
  unfold wM
  rw[NZ] at h
  split
  ·rename_i hx
   refine NZ.mpr ⟨fun z hz=>?_,NZ.mpr h⟩
   rcases Nx.mp hz with rfl | hz
   ·exact hx
   ·exact Int.le_trans hx (h.1 z hz)
  ·rename_i hx
   refine NZ.mpr ⟨fun z hz=>?_,lK x r h.2⟩
   rcases Nx.mp ((lG x r).mem_iff.mp hz) with rfl | hz
   ·lia
   ·exact h.1 z hz
theorem jN:∀l,(l8 l).Pairwise (fun a b=>kT 20 a<=kT 20 b)
 | []=>.nil
 | x::r=>lK x _ (jN r)
theorem nq:∀{xs ys:List (List Int)},xs.Perm ys->xs.Pairwise (fun a b=>kT 20 a<kT 20 b)->ys.Pairwise (fun a b=>kT 20 a<=kT 20 b)->xs=ys
 | [],ys,p,_,_=>by simp_all
 | x::xs,[],p,_,_=>absurd (QU.eq_nil p) (by simp)
 | x::xs,y::ys,p,hx,hy=>by
  rw[NZ] at hx hy
  have e:x=y:=by
   grind
  subst e
  rw[nq (List.perm_cons x |>.mp p) hx.2 hy.2]
noncomputable def Ej (ns:List Int):D:=.tup (ns.map D.int)
noncomputable def i6:List D->Option (List (List Int))
 | []=>some []
 | .tup ds::r=>match intsOf ds,i6 r with
  | some ns,some xss=>some (ns::xss)
  | _,_=>none
 | _::_=>none
noncomputable def okT (xss:List (List Int)):Bool:=decide (2<=xss.length/\xss.length<=100000)&&xss.all (fun xs=>!xs.isEmpty&&decide (xs.length<=20)&&xs.all fun x=>decide (0<=x/\x<=98))&&decide ((xss.map (kT 20)).Nodup)
noncomputable def iC (nl:NL):List D->Hh->R D:=fun ds h=>match ds with
 | [.frl xs]=>if xs.length<2 then nl xs h else match i6 xs with
  | some xss=>if okT xss=true then nl ((l8 xss).map Ej) h else .bad
  | none=>.bad
 | _=>.bad
theorem E_ {xss:List (List Int)} (e:okT xss=true):OkT xss/\∀xs∈xss,xs≠[]:=by
 unfold okT at e
 simp only[NQ,decide_eq_true_eq,NU] at e
 obtain⟨⟨⟨h2,hz⟩,al⟩,nd⟩:=e
 refine⟨⟨h2,hz,fun xs hx=>⟨fun x hx'=>(al xs hx).2 x hx',(al xs hx).1.2⟩,nd⟩,fun xs hx z=>?_⟩
 have:=(al xs hx).1.1
 rw[z] at this;simp at this
theorem BN {q:List Nat} (pm:q.Perm (Nj xss.length)) (up:(q.map fun i=>kT 20 (xss.getD i [])).Pairwise (· < ·)):q.map (fun i=>xss.getD i [])=l8 xss:=by
 refine nq ?_ ?_ (jN xss)
 ·have e:=L2.Srt.range_getD xss []
  have this:(q.map fun i=>xss.getD i []).Perm ((Nj xss.length).map fun i=>xss.getD i []):=pm.map _
  exact(this.trans (.of_eq e.symm)).trans (n5 xss).symm
 grind
section
variable {X:Cx}{g:GG}{ε:EE}{K:ab}
theorem q_ {α:List Addr}{H:Hp}:∀{ns:List Int}{vs:List V},au K g α H (ns.map D.int) vs->vs=ns.map V.int
 | [],_,.nil=>rfl
 | n::ns,_,.cons r rs=>by cases r;rw[q_ rs];rfl
theorem nh {α:List Addr}{H:Hp}:∀{ds:List D}{xs:List V}{xss:List (List Int)},au K g α H ds xs->i6 ds=some xss->TpV K H xs xss/\ds=xss.map Ej
 | _,_,xss,.nil,e=>by cases e;exact⟨.nil,rfl⟩
 | d::ds,_,xss,.cons rd rs,e=>by
  cases rd with
  | @tup es p vs hp rs2=>
   have e:(match intsOf es,i6 ds with | some ns,some xss=>some (ns::xss) | _,_=>none)=some xss:=e
   cases e1:intsOf es with
   | none=>simp_all
   | some ns=>
    cases e2:i6 ds with
    | none=>simp_all
    | some yss=>
     rw[e1,e2] at e
     cases e
     obtain⟨a,b⟩:=nh rs e2
     have e3:=dI e1
     subst e3
     have e4:=q_ rs2
     subst e4
     exact⟨.cons (SqT.of hp) a,by rw[b];rfl⟩
  | _=>cases e
noncomputable abbrev D4 (K:ab) (F:VK->VK):List V->Hp->VK->Prop:=fun vs H Q=>∃p xs xss,vs=[.ref p]/\SqL K H p xs/\TpV K H xs xss/\OkT xss/\(∀ns∈xss,ns≠[]) ∧
  ∀l (q:List Nat),q.Perm (Nj xss.length)->(q.map fun i=>kT 20 (xss.getD i [])).Pairwise (· < ·)->H l=none->F Q (.ref l) (upd H l (.lst (q.map fun i=>xs.getD i .non)))
theorem Ba [jj nl]:kl K g ε (iC nl) (fun vs H Q=>Dy K g7 vs H Q\/D4 K g7 vs H Q):=by
 intro α H h a x Q r ra w
 cases ra with
 | nil=>exact w.elim
 | cons rd rr=>
  cases rr with
  | cons _ _=>unfold iC at w;cases rd<;>exact w.elim
  | nil=>
   cases rd with
   | @frl ds p vs hp rs=>
    by_cases z:ds.length<2
    ·have w:WQ K g ε α H (nl ds h) (aO K g α H Q):=by
      unfold iC at w;simp_all
     exact .inl ⟨p,vs,rfl,hp.sq,by rw[<- rs.length];exact z,fun l hl=>NL.post w r rs hl⟩
    ·unfold iC at w
     dsimp only at w
     rw[if_neg z] at w
     cases e:i6 ds with
     | none=>rw[e] at w;exact w.elim
     | some xss=>
      rw[e] at w
      obtain⟨ok,w⟩:=WQ.dO w
      obtain⟨pr,rfl⟩:=nh rs e
      obtain⟨o1,o2⟩:=E_ ok
      refine .inr ⟨p,vs,xss,rfl,hp.sq,pr,o1,o2,fun l q pm up hl=>?_⟩
      have lt:∀i∈q,i<xss.length:=fun i hi=>by
       grind
      have rp:=uy rs q (fun i hi=>by simp_all)
      have ee:(q.map fun i=>(xss.map Ej).getD i .non)=(l8 xss).map Ej:=by
       rw[<- BN pm up,O1]
       simp_all
      rw[ee] at rp
      exact NL.post w r rp hl
   | _=>exact w.elim
end
end L2.FE
namespace L2.ST
open PySem
noncomputable abbrev Asc (l:List Nat):Prop:=l.Pairwise (· < ·)
theorem getD_at {xs:Array Nat} (h):xs.getD i d=xs.toList[i]'(by simpa using h):=by
 simp[h]
theorem oF (xs:Array Nat) (j:Nat) (so:Asc xs.toList):∀(f lo hi:Nat),lo<=hi->hi<=xs.size->hi - lo<=f->(∀i (h:i<xs.toList.length),i<lo->xs.toList[i]<j)->(∀i (h:i<xs.toList.length),hi<=i->j<=xs.toList[i]) →
  ∃r,OY.go xs j f lo hi=r/\r<=xs.size/\(∀i (h:i<xs.toList.length),i<r->xs.toList[i]<j)/\(∀i (h:i<xs.toList.length),r<=i->j<=xs.toList[i])
 | 0,lo,hi,h1,h2,hf,a,b=>⟨lo,rfl,by lia,a,fun i h hi'=>b i h (by lia)⟩
 | f+1,lo,hi,h1,h2,hf,a,b=>by
  unfold OY.go
  by_cases c:lo<hi
  ·rw[if_pos c]
   dsimp only
   have hm:(lo+hi) / 2<xs.size:=by lia
   have hm':(lo+hi) / 2<xs.toList.length:=by simpa using hm
   rw[getD_at hm]
   by_cases d:xs.toList[(lo+hi) / 2]<j
   ·rw[if_pos d]
    refine oF xs j so f _ hi (by lia) h2 (by lia) (fun i h hi'=>?_) b
    rcases QV i ((lo+hi) / 2) with e | e
    ·have:=NI.mp so i ((lo+hi) / 2) h hm' e
     lia
    ·have:i=(lo+hi) / 2:=by lia
     subst this;exact d
   ·rw[if_neg d]
    refine oF xs j so f lo _ (by lia) (by lia) (by lia) a (fun i h hi'=>?_)
    rcases QV ((lo+hi) / 2) i with e | e
    ·have:=NI.mp so ((lo+hi) / 2) i hm' h e
     lia
    ·have:i=(lo+hi) / 2:=by lia
     subst this;lia
  ·rw[if_neg c]
   exact⟨lo,rfl,by lia,a,fun i h hi'=>b i h (by lia)⟩
theorem m9 (j) (so:Asc xs.toList):∃r,OY xs j=r/\r<=xs.size/\(∀i h , i<r->xs.toList[i]<j)/\(∀i h , r<=i->j<=xs.toList[i]):=by
 exact oF xs j so xs.size 0 xs.size (by lia) (Ni _) (by lia) (fun i h hi=>by lia) (fun i h hi=>by grind)
theorem jm (xs) (p) (x:α) (hp:p<=xs.size):(OM xs p x).toList=xs.toList.take p++x::xs.toList.drop p:=by
 unfold OM
 simp[List.extract_eq_drop_take]
 rw[N2 (by simp)]
theorem wK {xs:Array Nat}{j:Nat} (so:Asc xs.toList) (hj:j∉xs.toList):Asc (OM xs (OY xs j) j).toList:=by
 obtain⟨r,e,hr,a,b⟩:=m9 j so
 rw[e,jm _ _ _ hr]
 have s1:Asc (xs.toList.take r):=so.sublist (List.take_sublist _ _)
 have s2:Asc (xs.toList.drop r):=so.sublist (List.drop_sublist _ _)
 refine NR.mpr ⟨s1,NZ.mpr ⟨fun y hy=>?_,s2⟩,fun x hx y hy=>?_⟩
 ·obtain⟨i,hi,rfl⟩:=OW hy
  rw[List.getElem_drop]
  rw[Qf] at hi
  have h1:=b (r+i) (by lia) (by lia)
  have h2:j≠xs.toList[r+i]:=fun z=>hj (z ▸ Q3 _)
  lia
 ·obtain⟨i,hi,rfl⟩:=OW hx
  rw[NH] at hi
  have h1:=a i (by lia) (by lia)
  rw[QK]
  rcases Nx.mp hy with rfl | hy
  ·exact h1
  ·obtain⟨k,hk,rfl⟩:=OW hy
   rw[Qf] at hk
   rw[List.getElem_drop]
   have:=b (r+k) (by lia) (by lia)
   lia
noncomputable def okM (m:Nat):Prop:=m=7\/m=31\/m=127\/m=511
noncomputable def itr (m:Nat):Nat->Nat->Nat
 | 0,i=>i
 | b+1,i=>itr m b ((i*5+1) % (m+1))
theorem mP (m:Nat):∀a b i,itr m (a+b) i=itr m b (itr m a i)
 | 0,b,i=>by rw[O9];rfl
 | a+1,b,i=>by rw[show a+1+b=(a+b)+1 by lia];exact mP m a b _
noncomputable def HQ (m:Nat):Nat->Nat->List Nat
 | 0,_=>[]
 | b+1,i=>i::HQ m b ((i*5+1) % (m+1))
theorem yx (m:Nat):∀b i e,e∈HQ m b i->∃c,c<b/\itr m c i=e
 | 0,i,e,h=>by cases h
 | b+1,i,e,h=>by
  rcases Nx.mp h with rfl | h
  ·exact⟨0,by lia,rfl⟩
  ·obtain⟨c,h1,h2⟩:=yx m b _ e h
   exact⟨c+1,by lia,h2⟩
noncomputable def ckO (m:Nat):Bool:=(Nj (m+1)).all (fun e=>(HQ m (m+1) 0).contains e)&&(itr m (m+1) 0 == 0)
theorem ck7:ckO 7=true:=by rfl
theorem JR:ckO 127=true:=by decide +kernel
theorem Jy:ckO 511=true:=by decide +kernel
theorem Kx (h:okM m):ckO m=true:=by
 rcases h with rfl | rfl | rfl | rfl
 ·exact ck7
 ·rfl
 ·exact JR
 ·exact Jy
theorem Kf (h:okM m) (hi:i<=m) (he:e<=m):∃b,b<=m/\itr m b i=e:=by
 have q:=Kx h
 unfold ckO at q
 rw[NQ,NU,beq_iff_eq] at q
 obtain⟨q1,q2⟩:=q
 have get:∀x,x<=m->∃c,c<m+1/\itr m c 0=x:=fun x hx=>yx m _ _ _ (by simpa using q1 x (N7.mpr (by lia)))
 obtain⟨a,ha,ea⟩:=get i hi
 obtain⟨b,hb,eb⟩:=get e he
 rcases QV b a with c | c
 ·refine⟨m+1 - a+b,by lia,?_⟩
  rw[mP,show itr m (m+1 - a) i=0 by rw[<- ea,<- mP,show a+(m+1 - a)=m+1 by lia,q2],eb]
 ·refine⟨b - a,by lia,?_⟩
  rw[<- ea,<- mP,show a+(b - a)=b by lia,eb]
noncomputable def blk (m:Nat):Nat->Nat->Nat->Nat × Nat
 | 0,i,p=>(i,p)
 | b+1,i,p=>blk m b (O8 m i p).1 (O8 m i p).2
theorem IW (m:Nat):∀b i,(blk m b i 0).1=itr m b i
 | 0,i=>rfl
 | b+1,i=>by
  show(blk m b ((i*5+1+0 / 32) % (m+1)) (0 / 32)).1=_
  rw[IW m b];rfl
theorem reach {m e:Nat} (h:okM m) (he:e<=m):∀c i p,p<32 ^ c->i<=m->∃b,b<=m+c/\(blk m b i p).1=e
 | 0,i,p,hp,hi=>by
  have:p=0:=by simpa using hp
  subst this
  obtain⟨b,h1,h2⟩:=Kf h hi he
  exact⟨b,by lia,by rw[IW,h2]⟩
 | c+1,i,p,hp,hi=>by
  have h1:p / 32<32 ^ c:=by rw[Nat.div_lt_iff_lt_mul (by decide)];exact hp
  have h2:(i*5+1+p / 32) % (m+1)<=m:=Pb (Rg _ (by lia))
  obtain⟨b,h3,h4⟩:=reach h he c ((i*5+1+p / 32) % (m+1)) (p / 32) h1 h2
  exact⟨b+1,by lia,h4⟩
theorem yK (h):Ol h<32 ^ 13:=by
 have:(h % 2 ^ 64).toNat<2 ^ 64:=by lia
 exact Rv this (by decide)
structure Tb (t:Oc):Prop where
 m:okM t.mask
 so:Asc t.place.toList
 le:∀x∈t.place.toList,x<=t.mask
 du:t.dummies = #[]
 sz:t.place.size<=t.mask
theorem DA (j):Oc.has #[] j=false:=by
 rfl
theorem Ep {t:Oc} (T:Tb t){j:Nat} (hj:j∈t.place.toList):∃i,t.slot j=.live i/\i<t.place.size:=by
 obtain⟨r,e,hr,a,b⟩:=m9 j T.so
 obtain⟨i,hi,ei⟩:=OW hj
 have h1:r<=i:=by
  rcases QV i r with c | c
  ·have:=a i hi c;lia
  ·exact c
 have h2:i<=r:=by
  rcases QV r i with c | c
  ·have q:=b r (by lia) (Ni _)
   have:=NI.mp T.so r i (by lia) hi c
   lia
  ·exact c
 have:i=r:=by lia
 subst this
 refine⟨i,?_,by simpa using hi⟩
 unfold Oc.slot
 rw[e]
 have:t.place[i]?=some j:=by rw[<- Nr,Np hi,ei]
 simp[this]
theorem vC {t:Oc} (T:Tb t){j:Nat} (hj:j∉t.place.toList):t.slot j=.empty:=by
 unfold Oc.slot
 have:(t.place[OY t.place j]? == some j)=false:=by
  cases e:t.place[OY t.place j]? with
  | none=>rfl
  | some x=>
   have:x∈t.place.toList:=by rw[<- Nr] at e;exact NP e
   have ne:x≠j:=fun z=>hj (z ▸ this)
   simpa using ne
 simp[this,T.du,DA]
theorem w_ (T:Tb t) (j):(t.slot j=.empty/\j∉t.place.toList)\/∃i,t.slot j=.live i/\i<t.place.size:=by
 by_cases h:j∈t.place.toList
 ·exact .inr (Ep T h)
 ·exact .inl ⟨vC T h,h⟩
theorem jA:∀{l l':List Nat},l.Nodup->(∀x∈l,x∈l')->l.length<=l'.length
 | [],_,_,_=>Ox _
 | x::l,l',nd,s=>by
  obtain⟨n1,n2⟩:=Of.mp nd
  have:=jA n2 fun y hy=>(List.mem_erase_of_ne (fun z:y=x=>n1 (z ▸ hy))).mpr (s y (ox _ hy))
  grind
theorem wJ (T:Tb t):∃e,e<=t.mask/\t.slot e=.empty:=by
 by_cases c:∃e,e<=t.mask/\e∉t.place.toList
 ·obtain⟨e,h1,h2⟩:=c
  exact⟨e,h1,vC T h2⟩
 ·exfalso
  have all:=fun e he=>Classical.byContradiction fun z=>c ⟨e,he,z⟩
  have q:=jA (l:=Nj (t.mask+1)) Q4 fun x hx=>all x (by grind)
  rw[P5,Nu] at q
  have:=T.sz
  lia
noncomputable def adv (t:Oc):Nat->QP->QP
 | 0,q=>q
 | k+1,q=>adv t k (t.advance q)
theorem yi (t:Oc):∀a b q,adv t (a+b) q=adv t b (adv t a q)
 | 0,b,q=>by rw[O9];rfl
 | a+1,b,q=>by rw[show a+1+b=(a+b)+1 by lia];exact yi t a b _
noncomputable abbrev pAt (t:Oc) (i p:Nat):QP:={ j:=i,more:=OC t.mask i - i,i:=i,perturb:=p,dummy:=none }
theorem yQ (t:Oc):∀c (q:QP),q.more=c->q.dummy=none->adv t (c+1) q=pAt t (O8 t.mask q.i q.perturb).1 (O8 t.mask q.i q.perturb).2
 | 0,q,h,hd=>by
  show t.advance q=_
  unfold Q5
  simp_all
 | c+1,q,h,hd=>by
  show adv t (c+1) (t.advance q)=_
  have e:t.advance q={ q with j:=q.j+1,more:=q.more - 1 }:=by unfold Q5;simp_all
  rw[e];exact yQ t c _ (by simp_all) hd
theorem Fs (m i):OC m i - i<=9:=by unfold OC;grind
theorem yn (t):∀b i p,∃k,k<=10*b/\adv t k (pAt t i p)=pAt t (blk t.mask b i p).1 (blk t.mask b i p).2
 | 0,i,p=>⟨0,by lia,rfl⟩
 | b+1,i,p=>by
  obtain⟨k,h1,h2⟩:=yn t b (O8 t.mask i p).1 (O8 t.mask i p).2
  refine⟨OC t.mask i - i+1+k,by have:=Fs t.mask i;lia,?_⟩
  rw[yi,yQ t _ (pAt t i p) rfl rfl,h2]
  rfl
theorem AM (t:Oc) (h):(t.probeStart h).j+(t.probeStart h).more<=t.mask:=by
 show Ol h % (t.mask+1)+(OC t.mask (Ol h % (t.mask+1)) - Ol h % (t.mask+1))<=_
 have:Ol h % (t.mask+1)<=t.mask:=Pb (Rg _ (by lia))
 unfold OC
 grind
theorem GL {t:Oc} (q) (h:q.j+q.more<=t.mask):(t.advance q).j+(t.advance q).more<=t.mask:=by
 unfold Q5
 split
 ·grind
 ·show(O8 t.mask q.i q.perturb).1+(OC t.mask (O8 t.mask q.i q.perturb).1 - (O8 t.mask q.i q.perturb).1)<=t.mask
  have:(O8 t.mask q.i q.perturb).1<=t.mask:=Pb (Rg _ (by lia))
  unfold OC
  grind
noncomputable def Rch (t:Oc) (k:Nat) (q:QP):Prop:=q.dummy=none/\q.j+q.more<=t.mask/\t.slot (adv t k q).j=.empty
theorem Ah (T:Tb t) (h):∃k,k+1<10*Po t.mask/\Rch t k (t.probeStart h):=by
 obtain⟨e,he,ee⟩:=wJ T
 obtain⟨b,h1,h2⟩:=reach T.m he 13 (Ol h % (t.mask+1)) (Ol h) (yK h) (Pb (Rg _ (by lia)))
 obtain⟨k,h3,h4⟩:=yn t b (Ol h % (t.mask+1)) (Ol h)
 refine⟨k,by unfold Po;lia,rfl,AM t h,?_⟩
 show t.slot (adv t k (pAt t (Ol h % (t.mask+1)) (Ol h))).j=.empty
 simp_all
theorem zW (t:Oc) (q):(t.advance q).dummy=q.dummy:=by unfold Q5;grind
theorem AX {t:Oc} (T:Tb t) (ha:Nat->Int) (h:Int):∀k fuel q,k<fuel->Rch t k q →
  (∃j,RJ t ha h fuel q=some (.empty j none)/\j∉t.place.toList/\j<=t.mask)\/(∃j i k' q',RJ t ha h fuel q=some (.candidate j i q')/\t.slot j=.live i/\i<t.place.size/\ha i=h/\k'<k/\Rch t k' q')
 | k,0,q,hf,_=>by lia
 | k,f+1,q,hf,R=>by
  unfold RJ
  rcases w_ T q.j with⟨e,hn⟩ | ⟨i,e,hi⟩
  ·rw[e]
   exact .inl ⟨q.j,by show some (Oc.Met.empty q.j q.dummy)=_;rw[R.1],hn,by have:=R.2.1;lia⟩
  ·rw[e]
   cases k with
   | zero=>have:=R.2.2;rw[show adv t 0 q=q from rfl,e] at this;cases this
   | succ k=>
    have R':Rch t k (t.advance q):=⟨by rw[zW];exact R.1,GL q R.2.1,R.2.2⟩
    by_cases c:(ha i == h)=true
    ·refine .inr ⟨q.j,i,k,t.advance q,?_,e,hi,by simpa using c,by lia,R'⟩
     show(if (ha i == h)=true then _ else _)=_
     rw[if_pos c]
    ·show(∃j,(if (ha i == h)=true then _ else _)=_/\_)\/(∃j i' k' q',(if (ha i == h)=true then _ else _)=_/\_)
     rw[if_neg c]
     rcases AX T ha h k f (t.advance q) (by lia) R' with⟨j,h1,h2,h3⟩ | ⟨j,i',k',q',h1,h2,h3,h4,h5,h6⟩
     ·exact .inl ⟨j,h1,h2,h3⟩
     ·exact .inr ⟨j,i',k',q',h1,h2,h3,h4,by lia,h6⟩
theorem uM {m:Nat} (owner:Array (Option Nat)){e:Nat} (he:(owner.getD e (some 0)).isNone=true):∀b fuel i p,b<fuel->(blk m b i p).1=e →
  ∃j,QF m owner fuel i p=some j/\(owner.getD j (some 0)).isNone=true
 | b,0,i,p,h,_=>by lia
 | b,f+1,i,p,h,hb=>by
  unfold QF
  cases c:(Nj (OC m i+1 - i)).find? fun k=>(owner.getD (i+k) (some 0)).isNone with
  | some k=>simp_all
  | none=>
   cases b with
   | zero=>
    exfalso
    have hr:OC m i ≥ i:=by unfold OC;grind
    have:=List.find?_eq_none.mp c 0 (N7.mpr (by lia))
    rw[show i+0=e from hb] at this
    simp_all
   | succ b=>exact uM owner he b f _ _ (by lia) hb
noncomputable def jU (l:List (Option Nat)):List Nat:=l.filterMap id
theorem uL:∀{l:List (Option Nat)},(jU l).length<l.length->∃j:Nat,l[j]?=some none
 | [],h=>by simp_all
 | none::l,_=>⟨0,rfl⟩
 | some x::l,h=>by
  obtain⟨j,e⟩:=uL (by simp[jU] at h ⊢;omega)
  exact⟨j+1,e⟩
theorem rA {k:Nat}:∀{l:List (Option Nat)}{j:Nat},l[j]?=some none->(jU (l.set j (some k))).Perm (k::jU l)
 | none::l,0,_=>by rfl
 | some x::l,0,h=>by cases h
 | none::l,j+1,h=>by simpa [jU] using rA (l:=l) h
 | some x::l,j+1,h=>by
  have:=rA (k:=k) (l:=l) h
  exact(this.cons x).trans (.swap _ _ _)
noncomputable def mZ (m:Nat) (acc:Option (Array (Option Nat) × Nat)) (h:Int):Option (Array (Option Nat) × Nat):=do
 let (owner,k) ← acc
 let j ← QF m owner (Po m) (Ol h % (m+1)) (Ol h)
 pure (owner.setIfInBounds j (some k),k+1)
theorem vP {m:Nat} (hm:okM m):∀(hs:List Int) (owner:Array (Option Nat)) (k:Nat),owner.size=m+1->(jU owner.toList).Perm (Nj k)->k+hs.length<=m+1 →
  ∃owner',hs.foldl (mZ m) (some (owner,k))=some (owner',k+hs.length)/\owner'.size=m+1/\(jU owner'.toList).Perm (Nj (k+hs.length))
 | [],owner,k,hs,hp,_=>⟨owner,rfl,hs,hp⟩
 | h::r,owner,k,hs,hp,hk=>by
  rw[N8] at hk
  have hl:(jU owner.toList).length<owner.toList.length:=by rw[hp.length_eq,P5,Nu];lia
  obtain⟨e,ee⟩:=uL hl
  rw[Nr] at ee
  have he:(owner.getD e (some 0)).isNone=true:=by simp[ee]
  have hle:e<=m:=by have:=(Array.getElem?_eq_some_iff.mp ee).1;lia
  obtain⟨b,h1,h2⟩:=reach hm hle 13 (Ol h % (m+1)) (Ol h) (yK h) (Pb (Rg _ (by lia)))
  obtain⟨j,h3,h4⟩:=uM owner he b (Po m) _ _ (by unfold Po;lia) h2
  have hj:owner[j]?=some none:=by
   rw[Array.getD_eq_getD_getElem?] at h4
   cases c:owner[j]? with
   | none=>rw[c] at h4;simp at h4
   | some x=>rw[c] at h4;simp at h4;rw[h4]
  have hp2:(jU (owner.setIfInBounds j (some k)).toList).Perm (Nj (k+1)):=by
   rw[Array.toList_setIfInBounds]
   refine(rA (by rw[Nr];exact hj)).trans ((hp.cons k).trans ?_)
   rw[Pz]
   exact(P8 k (Nj k)).symm
  obtain⟨o',q1,q2,q3⟩:=vP hm r (owner.setIfInBounds j (some k)) (k+1) (by simpa using hs) hp2 (by lia)
  refine⟨o',?_,q2,?_⟩
  ·rw[Oz,show mZ m (some (owner,k)) h=some (owner.setIfInBounds j (some k),k+1) by unfold mZ;simp[h3],q1,N8]
   congr 2;lia
  ·rw[N8,show k+(r.length+1)=k+1+r.length by lia];exact q3
theorem Gk (hm:okM m) (hs) (hl:hs.size<=m+1):∃owner,SetTable.layClean m hs=some owner/\owner.size=m+1/\(jU owner.toList).Perm (Nj hs.size):=by
 obtain⟨o',q1,q2,q3⟩:=vP hm hs.toList (Array.replicate (m+1) none) 0 (by simp) (by simp[jU]) (by simp_all)
 refine⟨o',?_,q2,by simp_all⟩
 show(hs.foldl (mZ m) (some (Array.replicate (m+1) none,0))).map (·.1)=_
 simp_all
theorem kj (g:Nat->Option Nat):∀l:List Nat,(l.filterMap fun j=>(g j).map (j,·)).map (·.1)=l.filter fun j=>(g j).isSome
 | []=>rfl
 | j::l=>by
  cases e:g j with
  | none=>simpa [e] using kj g l
  | some x=>simpa [e] using kj g l
theorem kH (g:Nat->Option Nat):∀l:List Nat,(l.filterMap fun j=>(g j).map (j,·)).map (·.2)=l.filterMap g
 | []=>rfl
 | j::l=>by
  cases e:g j with
  | none=>simpa [e] using kH g l
  | some x=>simpa [e] using kH g l
theorem qO (o:Array (Option Nat)):(Nj o.size).filterMap (fun j=>o.getD j none)=jU o.toList:=by
 have e:(Nj o.size).map (fun j=>o.getD j none)=o.toList:=by
  apply QZ
  ·simp
  simp_all
 rw[jU,<- e,List.filterMap_map];rfl
theorem DF (hm:okM m) (hs) (hl:hs.size<=m):∃t order,Oc.laid m f mv ld pl hs=some (t,order)/\Tb t/\t.mask=m/\t.led=ld/\t.plain=pl/\t.place.size=hs.size/\order.toList.Perm (Nj hs.size):=by
 obtain⟨o,q1,q2,q3⟩:=Gk hm hs (by lia)
 refine⟨{ mask:=m,place:=((Nj (m+1)).filter fun j=>(o.getD j none).isSome).toArray,dummies:=#[],finger:=f,led:=ld,moves:=mv,plain:=pl },(jU o.toList).toArray,?_,?_⟩
 ·unfold Oc.laid
  rw[q1]
  show some _=some _
  congr 2
  ·congr 2
   exact kj (fun j=>o.getD j none) _
  ·rw[kH (fun j=>o.getD j none),<- q2,qO]
 ·have len:((Nj (m+1)).filter fun j=>(o.getD j none).isSome).length=hs.size:=by
   rw[<- kj,Nw,<- Nw,kH,<- q2,qO,q3.length_eq,P5]
  refine⟨⟨hm,?_,?_,rfl,?_⟩,rfl,rfl,rfl,?_,?_⟩
  ·show Asc (Sy _).toList
   exact Rb.filter _ List.pairwise_lt_range
  ·grind
  ·simp_all
  ·omega
  lia
theorem HD {t:Oc} (T:Tb t){j:Nat} (hj:j∉t.place.toList) (hm:j<=t.mask) (hs:t.place.size+1<=t.mask):Tb (t.put j).1/\(t.put j).1.mask=t.mask/\(t.put j).1.led=t.led/\(t.put j).1.plain=t.plain/\(t.put j).1.place.size=t.place.size+1/\(t.put j).2<=t.place.size:=by
 obtain⟨r,e,hr,_⟩:=m9 j T.so
 have il:=jm t.place r j hr
 have sz:(OM t.place (OY t.place j) j).size=t.place.size+1:=by
  rw[e,<- Nu,il,NY,N8,NH,Qf,Nu];lia
 have du:(t.put j).1.dummies = #[]:=by
  show(if Oc.has t.dummies j=true then _ else t.dummies)=_
  rw[T.du];rfl
 refine⟨⟨T.m,wK T.so hj,?_,du,?_⟩,rfl,rfl,rfl,sz,by show OY t.place j<=_;rw[e];exact hr⟩
 ·intro x hx
  have hx:x∈(OM t.place (OY t.place j) j).toList:=hx
  rw[e,il] at hx
  rcases N9.mp hx with h | h
  ·exact T.le x (Qa h)
  ·rcases Nx.mp h with rfl | h
   ·exact hm
   ·exact T.le x (Q9 h)
 ·show(OM t.place (OY t.place j) j).size<=t.mask
  rw[sz];exact hs
structure Gd (bt) (t) (n):Prop where
 tb:Tb t
 sz:t.place.size=n
 led:t.led = !bt
 pl:t.plain=true
 rng:(t.mask=7/\n<=4)\/(t.mask=31/\5<=n/\n<=18)\/(t.mask=127/\19<=n/\n<=76)\/(t.mask=511/\77<=n/\n<=306)
theorem Gd.fits (g:Gd bt t n):t.fits n=true:=by
 unfold Oc.fits Sr
 rw[g.sz,g.tb.du]
 have:=g.tb.sz
 rw[g.sz] at this
 simp_all
theorem F6 (bt:Bool):Gd bt (.fresh 0 0 (!bt)) 0:=⟨⟨.inl rfl,by simp[Sb],by simp[Sb],rfl,by simp[Sb]⟩,rfl,rfl,rfl,.inl ⟨rfl,by lia⟩⟩
structure Pre (bt) (t) (n):Prop where
 tb:Tb t
 sz:t.place.size=n
 led:t.led = !bt
 pl:t.plain=true
 fits:t.fits n=true
 no:t.tooFull=false->Gd bt t n
 yes:t.tooFull=true->∃m,Ry (QQ n)=m+1/\m<=511/\∀hs:Array Int,hs.size=n->∃t' order,t.relaid hs (QQ n)=some (t',order)/\Gd bt t' n/\order.toList.Perm (Nj n)
theorem Gu {bt:Bool}{t:Oc}{n:Nat} (g:Gd bt t n) (hn:n<306){j:Nat} (hj:j∉t.place.toList) (hm:j<=t.mask):Pre bt (t.put j).1 (n+1)/\(t.put j).2<=n:=by
 have hs:t.place.size+1<=t.mask:=by rw[g.sz];rcases g.rng with h | h | h | h<;>lia
 obtain⟨T,e1,e2,e3,e4,e5⟩:=HD g.tb hj hm hs
 rw[g.sz] at e4 e5
 have ft:(t.put j).1.fits (n+1)=true:=by
  unfold Oc.fits Sr
  have:=T.sz
  rw[e4] at this
  rw[e4,T.du];simp;exact this
 have tf:(t.put j).1.tooFull=decide ((n+1)*5 ≥ t.mask*3):=by
  unfold Oc.tooFull Sr
  rw[e4,T.du,e1];simp
 refine⟨⟨T,e4,by rw[e2];exact g.led,by rw[e3];exact g.pl,ft,fun c=>⟨T,e4,by rw[e2];exact g.led,by rw[e3];exact g.pl,?_⟩,fun c=>?_⟩,e5⟩
 ·rw[tf] at c
  have c:=of_decide_eq_false c
  rcases g.rng with h | h | h | h
  ·exact .inl ⟨h.1,by lia⟩
  ·exact .inr (.inl ⟨h.1,by lia,by lia⟩)
  ·exact .inr (.inr (.inl ⟨h.1,by lia,by lia⟩))
  ·exact .inr (.inr (.inr ⟨h.1,by lia,by lia⟩))
 ·rw[tf] at c
  have c:=of_decide_eq_true c
  have key:∀m,okM m->Ry (QQ (n+1))=m+1->m<=511->n+1<=m->((m=7/\n+1<=4)\/(m=31/\5<=n+1/\n+1<=18)\/(m=127/\19<=n+1/\n+1<=76)\/(m=511/\77<=n+1/\n+1<=306)) →
    ∃m,Ry (QQ (n+1))=m+1/\m<=511/\∀hs:Array Int,hs.size=n+1->∃t' order,(t.put j).1.relaid hs (QQ (n+1))=some (t',order)/\Gd bt t' (n+1)/\order.toList.Perm (Nj (n+1)):=by
   intro m om hsz h5 hle hr
   refine⟨m,hsz,h5,fun hs hh=>?_⟩
   unfold Oc.relaid
   rw[hsz]
   obtain⟨t',order,a1,a2,a3,a4,a5,a6,a7⟩:=DF om hs (by lia)
   rw[hh] at a6 a7
   exact⟨t',order,a1,⟨a2,a6,by rw[a4,e2];exact g.led,by rw[a5,e3];exact g.pl,by rw[a3];exact hr⟩,a7⟩
  rcases g.rng with h | h | h | h
  ·have:n+1=5:=by lia
   exact key 31 (.inr (.inl rfl)) (by rw[this];decide) (by lia) (by lia) (.inr (.inl ⟨rfl,by lia,by lia⟩))
  ·have:n+1=19:=by lia
   exact key 127 (.inr (.inr (.inl rfl))) (by rw[this];decide) (by lia) (by lia) (.inr (.inr (.inl ⟨rfl,by lia,by lia⟩)))
  ·have:n+1=77:=by lia
   exact key 511 (.inr (.inr (.inr rfl))) (by rw[this];decide) (by lia) (by lia) (.inr (.inr (.inr ⟨rfl,by lia,by lia⟩)))
  ·exfalso;lia
end L2.ST
namespace L2.ST
open PySem PySem.Spec PyProof.Rows
noncomputable abbrev byT (w:N4):Bool:=w.params.followText "set-order"
noncomputable def HG (w:N4) (h:Heap) (S:Addr) (es:Array (Int × Ng)):Prop:=∃o ep t,h.get? S=some o/\o.ExactSet/\o.data=.set es ep t/\Gd (byT w) t es.size
theorem AF (xs) (p) (x:α):(OM xs p x).size=xs.size+1:=by
 have:=(Oc.insertAt_perm xs p x).length_eq
 simp_all
theorem y_ {α:Type}{es:Array α}{order:Array Nat} (p:order.toList.Perm (Nj es.size)):(order.filterMap (es[·]?)).toList.Perm es.toList:=by
 rw[Array.toList_filterMap]
 exact(p.filterMap _).trans (by rw[filterMap_getElem?_range])
section
variable {prog:NC}{w:N4}{A:N1}{E:Ng->Nk->Prop}{s:Nk}{S:Addr}{es:Array (Int × Ng)}
theorem yJ {h:Heap} (ho:h.get? S=some o) (hd:o.data=.set es ep t) (es') (t') :
  (h.update S (Obj.putSet es' t')).get? S=some { o with data:=.set es' (ep+1) t' }:=by
 have:=PV (Obj.putSet es' t') ho (by rw[putSet_of es' t' hd];rfl)
 rw[putSet_of es' t' hd] at this;lia
theorem uR (h:n<=306):n<=sizeLine:=NT h (by decide)
end
section
variable {prog:NC}{w:N4}{A:N1}{E:Ng->Nk->Prop}{s:Nk}{S:Addr}{es:Array (Int × Ng)}
noncomputable abbrev TK (prog:NC) (w:N4) (h:Heap) (ks:List Int) (a:Addr):Prop:=IsTupleKey (intKind prog w) h ks a
noncomputable def Ho (prog:NC) (w:N4) (h:Heap) (es:List (Int × Ng)) (x:List Int):Prop:=∀e∈es,∃ks a,e.2=.ref a/\TK prog w h ks a/\ks≠x
theorem Fp (h:(intKind prog w).is k v=true):∃t,v=.int k t:=by
 cases v<;>simp[intKind,SD] at h
 simp_all
theorem items_int (h:ItemsAre (intKind prog w) ks vs):∀v∈vs,∃n t,v=.int n t:=by
 induction h with
 | nil=>simp
 | cons h1 _ ih=>
  intro v hv
  rcases Nx.mp hv with rfl | hv
  ·obtain⟨t,e⟩:=Fp h1;simp_all
  simp_all
theorem qX {ks:List Int}{a:Addr}{Q:Bool->Nk->Prop} (hk:TK prog w s.heap ks a) (h:Q false s):wpAny (model prog w) A (ofAClassStatement 8 (.ref a)) Q E s:=by
 have hT:=hk.typeIs
 obtain⟨o,items,n,ho,_,hd,hi⟩:=hk
 unfold ofAClassStatement
 refine gV (Rt hT ?_)
 refine gV (k5 ?_)
 refine gV (RA ho hd ?_)
 refine gV ?_
 rw[<- Array.forIn_toList]
 refine RN _ (fun rest r s'=>r.1=none/\s'=s/\∀v∈rest,∃n t,v=.int n t) _ ?_ ?_ _ _ ⟨rfl,rfl,items_int hi⟩
 ·rintro v rest r s' ⟨hr,rfl,hall⟩
  obtain⟨n,t,rfl⟩:=hall v Nt
  refine gV ?_
  refine k5 ?_
  exact k5 ⟨rfl,rfl,fun u hu'=>hall u (ox _ hu')⟩
 ·rintro⟨r1,r2⟩ s' ⟨hr,rfl,_⟩
  subst hr
  exact k5 h
theorem Dk (hk:TK prog w s.heap x a) (hl:∀v∈l,∃ks b,v=.ref b/\TK prog w s.heap ks b) (h:Q false s):wpAny (model prog w) A (searchCouldBeSeen (.ref a) l) Q E s:=by
 refine gV ?_
 refine RN _ (fun rest r s'=>r.1=none/\s'=s/\∀v∈rest,∃ks b,v=.ref b/\TK prog w s.heap ks b) _ ?_ ?_ _ _ ⟨rfl,rfl,hl⟩
 ·rintro v rest r s' ⟨hr,rfl,hall⟩
  obtain⟨ks,b,rfl,hb⟩:=hall v Nt
  have nx:=fun u hu'=>hall u (ox _ hu')
  refine wpAny_ite_split (fun _=>k5 ⟨rfl,rfl,nx⟩) fun _=>?_
  refine gV (wpAny_eqIsQuiet_tuple hk ?_)
  refine gV (wpAny_eqIsQuiet_tuple hb ?_)
  refine gV (qX hk ?_)
  refine gV (qX hb ?_)
  exact k5 ⟨rfl,rfl,nx⟩
 ·rintro⟨r1,r2⟩ s' ⟨hr,rfl,_⟩
  subst hr
  exact k5 h
theorem JL (T:Tb t):t.gaveWay=false:=by
 unfold Oc.gaveWay
 rcases T.m with h | h | h | h<;>rw[h]<;>rfl
theorem C1 (hk:TK prog w s.heap ks a) (h:Q true s):wpAny (model prog w) A (hashByValue 8 (.ref a)) Q E s:=by
 have hT:=hk.typeIs
 obtain⟨o,items,n,ho,_,hd,hi⟩:=hk
 refine gV (wpAny_specialOf hT F.slot_tuple_hash.lookup ?_)
 refine gV (RA ho hd ?_)
 refine gV ?_
 show wpAny _ _ (forIn items _ _) _ _ s
 rw[<- Array.forIn_toList]
 refine RN _ (fun rest r s'=>r.1=none/\s'=s/\∀v∈rest,∃n t,v=.int n t) _ ?_ ?_ _ _ ⟨rfl,rfl,items_int hi⟩
 ·rintro v rest r s' ⟨hr,rfl,hall⟩
  obtain⟨n,t,rfl⟩:=hall v Nt
  refine gV ?_
  refine k5 ?_
  exact k5 ⟨rfl,rfl,fun u hu'=>hall u (ox _ hu')⟩
 ·rintro⟨r1,r2⟩ s' ⟨hr,rfl,_⟩
  subst hr
  exact k5 h
theorem zL {x:List Int}{a:Addr}{h:Int}{o:Obj}{ep:Nat}{t:Oc}{Q:SetFound->Nk->Prop} (ho:s.heap.get? S=some o) (hd:o.data=.set es ep t) (T:Tb t) (hsz:t.place.size=es.size) (hf:t.fits es.size=true) (hu:A.units<cLine)
  (hk:TK prog w s.heap x a) (hes:Ho prog w s.heap es.toList x) (hQ:∀j,j∉t.place.toList->j<=t.mask->Q (.free j false) s) :
  ∀k fuel stand,k<fuel->k<10*Po t.mask->Rch t k (stand.getD (t.probeStart h))->wpAny (model prog w) A (setSearchFrom S (.ref a) h true fuel stand) Q E s:=by
 intro k
 induction k using Nat.strongRecOn with
 | _ k ih=>
  intro fuel stand hfu hk2 R
  cases fuel with
  | zero=>lia
  | succ fuel=>
   refine gV (P6 ho hd hf ?_)
   dsimp only
   rw[JL T]
   simp only[Rz,if_false]
   generalize hp:t.probe _ h (stand.getD (t.probeStart h))=mt
   have key:∀ha,t.probe ha h (stand.getD (t.probeStart h))=mt->_:=fun ha e=>(e ▸ AX T ha h k (10*Po t.mask) _ hk2 R:(∃j,mt=some (.empty j none)/\j∉t.place.toList/\j<=t.mask)\/(∃j i k' q',mt=some (.candidate j i q')/\t.slot j=.live i/\i<t.place.size/\ha i=h/\k'<k/\Rch t k' q'))
   rcases key _ hp with⟨j,rfl,j1,j2⟩ | ⟨j,i,k',q',rfl,j1,j2,_,j4,j5⟩
   ·exact k5 (hQ j j1 j2)
   ·dsimp only
    have hi:i<es.size:=by lia
    obtain⟨ks,b,e1,e2,e3⟩:=hes es[i] (Array.getElem_mem_toList hi)
    have hei:es[i]?=some (es[i].1,.ref b):=by rw[Pn hi,<- e1]
    have rest:wpAny (model prog w) A (do
      let some (_,y):=es[i]? | unsupported "internal:set-entry"
      let equal ← holding [y] (eqBool y (.ref a))
      let (es',_,t') ← setState S
      if true&&equal then return SetFound.there none
      let some same:=t'.sameMemory t.moves t.mask | unsupported "set.changed-during-lookup:is-the-new-block-at-the-old-address"
      let still ← match (if same then t'.slot j else .empty) with
       | .live i'=>match es'[i']? with
        | some (_,y')=>do pure (if ← isSame y' y then some i' else none)
        | none=>pure none
       | _=>pure none
      match still with
      | none=>rule "set.search.anew"; setSearchFrom S (.ref a) h true fuel none
      | some i'=>if equal then return SetFound.there (some i') else setSearchFrom S (.ref a) h true fuel (some q')) Q E s:=by
     rw[hei]
     refine gV (Oe (wpAny_eqBool_tuple hu e2 hk ?_))
     rw[decide_eq_false e3]
     refine gV (P6 ho hd hf ?_)
     simp only[if_false]
     have sm:t.sameMemory t.moves t.mask=some true:=by unfold Oc.sameMemory;simp
     rw[sm]
     simp only[if_true]
     rw[j1]
     dsimp only
     rw[hei]
     refine gV (wpAny_isSame_ref_self (gV (k5 ?_)))
     exact ih k' j4 fuel (some q') (by lia) (by lia) j5
    refine wpAny_ite_split (fun _=>?_) fun _=>?_
    ·refine gV (Dk hk (fun v hv=>?_) ?_)
     ·obtain⟨e,he,rfl⟩:=Rx.mp hv
      obtain⟨ks',b',q1,q2,_⟩:=hes e (by rw[Array.toList_filter] at he;exact(N0.mp he).1)
      exact⟨ks',b',q1,q2⟩
     ·simp only[Rz]
      exact rest
    ·exact rest
end
section
variable {prog:NC}{w:N4}{A:N1}{E:Ng->Nk->Prop}{s:Nk}{S:Addr}{es:Array (Int × Ng)}
theorem ED (hS:HG w s.heap S es) (hn:es.size<306) (hu:A.units<cLine) (hk:TK prog w s.heap x a) (hes:Ho prog w s.heap es.toList x)
  (h1:∀h' es',PF S s.heap h'->HG w h' S es'->es'.toList.Perm (es.toList++[(hs,.ref a)])->Q true { s with heap:=h' }) :
  wpAny (model prog w) A (setAddHashed S (.ref a) hs) Q E s:=by
 obtain⟨o,ep,t,ho,hex,hd,g⟩:=hS
 have hf:=g.fits
 refine Oe (gV (P6 ho hd hf ?_))
 dsimp only
 rw[show byScan (.ref a) es=false by rfl]
 obtain⟨k,k1,R⟩:=Ah g.tb hs
 refine gV (zL ho hd g.tb g.sz hf hu hk hes (fun j jn jl=>?_) k 100000 none ?_ (by lia) R)
 ·dsimp only
  refine gV (P6 ho hd hf ?_)
  obtain⟨P,pl⟩:=Gu g hn jn jl
  have sz:(OM es (t.put j).2 (hs,Oj a)).size=es.size+1:=AF _ _ _
  have pm:=Oc.insertAt_perm es (t.put j).2 (hs,Oj a)
  rw[Array.toList_push] at pm
  generalize he1:OM es (t.put j).2 (hs,Oj a)=es1 at sz pm
  generalize ht1:(t.put j).1=t1 at P
  rw[P.pl]
  refine gV (C1 hk ?_)
  simp only[if_true]
  refine gV (wpAny_storeSet_of ho hd ?_ (uR (by lia)))
  have e1:=yJ ho hd es1 t1
  by_cases c:t1.tooFull=true
  ·rw[c]
   obtain⟨m,m1,m2,q⟩:=P.yes c
   obtain⟨t',order,a1,a2,a3⟩:=q (es1.map (·.1)) (by simp_all)
   rw[<- sz] at a3
   have pm2:=y_ a3
   have sz2:(order.filterMap (es1[·]?)).size=es.size+1:=by rw[<- Nu,pm2.length_eq,Nu,sz]
   refine gV ?_
   refine gV (P6 e1 rfl (by rw[sz];exact P.fits) ?_)
   dsimp only
   rw[if_neg (by rw[m1];have:512<=sizeLine:=by decide
                 lia)]
   rw[a1]
   show wpAny _ _ ((if ((order.filterMap (es1[·]?)).size != es1.size)=true then unsupported "internal:set-table-lost-an-element" else pure PUnit.unit >>= fun _=>pure (order.filterMap (es1[·]?),t')) >>= _) _ _ _
   rw[if_neg (by simp_all)]
   refine gV (gV (k5 (k5 ?_)))
   dsimp only
   refine wpAny_storeSet_of e1 rfl ?_ (uR (by lia))
   exact k5 (h1 _ _ ((OV _ _ _).trans (OV _ _ _)) ⟨_,_,t',yJ e1 rfl _ t',hex,rfl,by simp_all⟩ (pm2.trans pm))
  ·rw[Bool.not_eq_true] at c
   rw[c]
   exact k5 (h1 _ es1 (OV _ _ _) ⟨_,_,t1,e1,hex,rfl,by rw[sz];exact P.no c⟩ pm)
 ·have:t.mask<=511:=by rcases g.tb.m with h | h | h | h<;>lia
  unfold Po at k1
  lia
end
section
variable {prog:NC}{w:N4}{A:N1}{R:Result->Nk->Prop}{I:Addr}{fp wr:List Addr}{n:Nat}{P:Nat->Ng->Prop}{St:Nat->Heap->Prop}
theorem DM (W:Tf prog w A.in1 I fp wr n P St) (S) (hSf:S∉fp) (J:Nat->Heap->Prop)
  (keep:∀i h h',J i h->(∀b o,b∉wr->h.get? b=some o->h'.get? b=some o)->J i h')
  (step:∀i v s Q E , i<n->P i v->J i s.heap->(∀b h' tk,PF S s.heap h'->J (i+1) h'->Q b { s with heap:=h',toks:=tk })->wpAny (model prog w) A.in1 (setAdd S v) Q E s) :
  ∀k i s , n - i=k->i<=n->St i s.heap->J i s.heap →
   (∀h' tk,(∀b o,b∉S::wr->s.heap.get? b=some o->h'.get? b=some o)->J n h'->R (.ok (.ret .none)) { s with heap:=h',toks:=tk }) →
   codeAny (model prog w) A (.builtin "set.update.loop" ⟨[.ref S,.ref I],[]⟩) R s:=by
 intro k
 induction k with
 | zero=>
  intro i s hk hi hst hJ hR
  have hin:i=n:=by lia
  subst hin
  refine Px F.entry_set_update_loop ?_
  rw[N1.under_plainId Qz _]
  refine gV (W.done s _ _ hst fun h' tk hm=>?_)
  exact k5 (hR _ _ (fun b o hb e=>hm b o (fun z=>hb (ox _ z)) e) (keep _ _ _ hJ hm))
 | succ k ih=>
  intro i s hk hi hst hJ hR
  have hlt:i<n:=by lia
  refine Px F.entry_set_update_loop ?_
  rw[N1.under_plainId Qz _]
  refine gV (W.item i s _ _ hlt hst fun v h' tk hP hst' hm=>?_)
  refine gV (Oe (step i v _ _ _ hlt hP (keep _ _ _ hJ hm) fun b h2 tk2 sb J2=>?_))
  refine k5 ⟨plainId_quiet Qz _,ih (i+1) _ (by lia) hlt (W.frame _ _ _ hst' fun b hb o e=>?_) J2 fun h3 tk3 m3 J3=>?_⟩
  ·rw[sb.2 b (fun z:b=S=>hSf (z ▸ hb))];exact e
  ·refine hR h3 tk3 (fun b o hb e=>m3 b o hb ?_) J3
   rw[sb.2 b (fun z:b=S=>hb (by simp_all))]
   simp_all
end
theorem F3 (a)
  (h:Q₁ (.ref s.heap.objs.size) { s with heap:=s.heap.push { cls:=.type "set", dict:=none,data:=.set #[] 0 (.fresh 0 0 (!byT w)) } }) :
  codeAny (model prog w) A (.call (.builtin "set.__new__") ⟨[.type "set", a],[]⟩) (wants Q₁ E) s:=by
 refine Rl ?_
 refine gV (Sg (F.newCall_set_1 a) (k5 ⟨plainId_quiet F.plain_set_new _,Px F.entry_set_new ?_⟩))
 unfold Oo.«set.__new__» Oo.Frozenset.newClass
 have hsub:=sub_set_self
 wp_walk
 refine wpAny_askSetting (k5 ?_)
 refine gV (wpAny_alloc (k5 ?_))
 exact k5 h
noncomputable abbrev n6 (w:N4):Obj:={ cls:=.type "set", dict:=none,data:=.set #[] 0 (.fresh 0 0 (!byT w)) }
structure Src (prog) (w) (T) (a) (n) (P) (OK:Heap->Prop):Prop where
 obj:∀h,OK h->∃o,h.get? a=some o/\o.cls=.type T
 keep:∀h h':Heap,OK h->(∀o,h.get? a=some o->h'.get? a=some o)->OK h'
 iter:∀A s , A.handled=none->OK s.heap->∃oI St,
  (∀E Q , Q (.ref s.heap.objs.size) { s with heap:=s.heap.push oI }->wpAny (model prog w) A (pyIter (.ref a)) Q E s) ∧
  (∀A':N1,A'.handled=none->Tf prog w A' s.heap.objs.size [s.heap.objs.size,a] [s.heap.objs.size] n P St)/\St 0 (s.heap.push oI)
 s1:isSubtype (.type T) (.type "set")=pure false
 s2:isSubtype (.type T) (.type "frozenset")=pure false
 nd:(QG T == QG "dict")=false
set_option maxHeartbeats 3200000 in
theorem Gh {prog:NC}{w:N4}{B:N1}{Er:Ng->Nk->Prop}{z:Nk}{T:String}{a:Addr}{n:Nat}{P:Nat->Ng->Prop}{OK:Heap->Prop}{Q:Ng->Nk->Prop} (K:Src prog w T a n P OK)
  (hh:B.handled=none) (hok:OK z.heap) (J:Nat->Heap->Prop) (j0:∀h,h.get? z.heap.objs.size=some (n6 w)->(∀b o,z.heap.get? b=some o->h.get? b=some o)->J 0 h)
  (keep:∀i h h',J i h->(∀b o,b≠z.heap.objs.size+1->h.get? b=some o->h'.get? b=some o)->J i h')
  (step:∀(A:N1) i v (s:Nk) (Q:Bool->Nk->Prop) (E:Ng->Nk->Prop),A.units<=B.units+20->i<n->P i v->J i s.heap->(∀b h' tk,PF z.heap.objs.size s.heap h'->J (i+1) h'->Q b { s with heap:=h',toks:=tk })->wpAny (model prog w) A (setAdd z.heap.objs.size v) Q E s)
  (fin:∀(g':Heap) (tk:Nat),J n g'->(∀b o,b<z.heap.objs.size->z.heap.get? b=some o->g'.get? b=some o)->Q (.ref z.heap.objs.size) { z with heap:=g',toks:=tk }) :
  wpAny (model prog w) B (call (.type "set") [.ref a]) Q Er z:=by
 obtain⟨_,_,_⟩:=Ot.mro
 have:=Ot.made
 have:=Ot.sub
 refine R5 (Rl ?_)
 show wpAny _ _ (callAny (.type "set") _) _ _ _
 refine k5 ⟨Ru _ (by decide +kernel),Px F.entry_type_call ?_⟩
 rw[N1.under_plain (weight_type_call_type "set" [.ref a] []) rfl]
 have:=Ot.notType
 have:=Ot.canCreate
 have:=F.typeCall_set_1 (.ref a)
 repeat (any_goals (first | assumption | wp_step))
 refine O_ (F3 (.ref a) (E:=Er) (Q₁:=fun v y=>v=.ref z.heap.objs.size/\y={ z with heap:=z.heap.push (n6 w) }) ⟨rfl,rfl⟩) fun r y hr=>?_
 cases r with
 | error e=>exact hr
 | ok fl=>
  cases fl with
  | ret v=>
   obtain⟨rfl,rfl⟩:=hr
   have hS:(z.heap.push (n6 w)).get? z.heap.objs.size=some (n6 w):=Nm _ rfl
   have hT:Nk.TypeIs { z with heap:=z.heap.push (n6 w) } (.ref z.heap.objs.size) "set" := ⟨_,hS,rfl⟩
   have:=Ot.init.lookup
   have:=Ot.init.bind (.ref z.heap.objs.size)
   repeat (any_goals (first | assumption | wp_step))
   refine O_ (codeAny_call_builtin (R:=wants (fun r y=>r=.none/\∃g' tk,y={ z with heap:=g',toks:=tk }/\J n g' ∧
     (∀b o,b<z.heap.objs.size->z.heap.get? b=some o->g'.get? b=some o)) Er) Ot.init.plain F.entry_set_init (check_set_init_1 hT ?_)) fun r₂ y₂ hr₂=>?_
   ·obtain⟨ol,hol,hcl⟩:=K.obj _ hok
    have hlS:a<z.heap.objs.size:=Nh hol
    obtain⟨oc,od,oda,osl⟩:=ol
    simp only at hcl
    subst hcl
    have hol':(z.heap.push (n6 w)).get? a=some { cls:=.type T,dict:=od,data:=oda,slots:=osl }:=k3 _ hol
    have:=K.s1
    have:=K.s2
    have:=K.nd
    have ok1:OK (z.heap.push (n6 w)):=K.keep _ _ hok fun o e=>k3 _ e
    unfold Oo.«set.__init__» noKeywords Oo.Frozenset.updateFrom
    generalize hPI:pyIter=PI
    wp_walk
    subst hPI
    obtain⟨oI,St,hit,W,st⟩:=K.iter B.in1.in1 { z with heap:=z.heap.push (n6 w) } hh ok1
    refine hit _ _ ?_
    refine gV (R8 ?_)
    have sz:(z.heap.push (n6 w)).objs.size=z.heap.objs.size+1:=QO _ _
    have W':=W B.in1.in1.in1 hh
    rw[show({ z with heap:=z.heap.push (n6 w) }:Nk).heap.objs.size=z.heap.objs.size+1 from sz] at W'
    show codeAny _ _ (.builtin "set.update.loop" ⟨[.ref z.heap.objs.size,.ref (z.heap.push (n6 w)).objs.size],[]⟩) _ _
    rw[sz]
    refine DM W' z.heap.objs.size ?hSf J (fun i h h' j k=>keep i h h' j fun b o hb e=>k b o (by simpa using hb) e) (fun i v s Q E hi hp hj hq=>step _ i v s Q E ?un hi hp hj hq) (n - 0) 0 _ (by lia) (Ox _) st ?hJ0 ?hR
    case hSf=>simp only[Nx,QY,or_false,not_or];exact⟨NA (OS _),Qm hlS⟩
    case un=>show B.units+3<=_;lia
    case hJ0=>exact j0 _ (k3 _ hS) fun b o e=>k3 _ (k3 _ e)
    case hR=>
     intro h' tk hm hJ
     show wpAny _ _ _ _ _ _
     refine k5 ?_
     show wpAny _ _ (ret OI) _ _ _
     refine k5 ⟨rfl,h',tk,rfl,hJ,fun b o hb e=>hm b o ?_ (k3 _ (k3 _ e))⟩
     simp only[Nx,QY,or_false,not_or]
     exact⟨NA hb,NA (P1 hb)⟩
   ·cases r₂ with
    | error e=>exact hr₂
    | ok fl₂=>
     cases fl₂ with
     | ret r=>
      obtain⟨rfl,g',tk,rfl,hS',hk'⟩:=hr₂
      repeat (any_goals (first | assumption | wp_step))
      exact fin _ _ hS' hk'
     | _=>exact hr₂.elim
  | _=>exact hr.elim
noncomputable def u3 (h:Heap) (S:Addr) (es:Array (Int × Ng)) (ep:Nat) (t:Oc):Prop:=∃o,h.get? S=some o/\o.ExactSet/\o.data=.set es ep t
section
variable {prog:NC}{w:N4}{A:N1}{E:Ng->Nk->Prop}{s:Nk}{S I:Addr}{es:Array (Int × Ng)}{ep:Nat}{t:Oc}
theorem u3.keep {h h':Heap} (x:u3 h S es ep t) (k:∀o,h.get? S=some o->h'.get? S=some o):u3 h' S es ep t:=let ⟨o,a,b⟩:=x;⟨o,k o a,b⟩
end
section
variable {prog:NC}{w:N4}{A:N1}{E:Ng->Nk->Prop}{s:Nk}{S I:Addr}{es:Array (Int × Ng)}{ep:Nat}{t:Oc}
theorem u3.lt {h:Heap} (x:u3 h S es ep t):S<h.objs.size:=let ⟨_,a,_⟩:=x;Nh a
end
end L2.ST
namespace L2.FE
open PySem PySem.Spec PyProof.Rows L2.ST
section
variable {X:Cx}{g:GG}{ε:EE}{e:Expr}{es:List Expr}{pos pos1:Pos}{mr:MA}{K:ab}
theorem BI {id T:String}{p q:Pos} (hc2:bB X (.builtin id) r2) (hc1:bB X (.type T) r1) (im:kl X.K g ε f (fun vs H Q=>r1 vs H (fun v H1=>r2 [v] H1 Q)))
  (hg:Gl X x) (hm:X.mg x=none) (hv:bootBuiltins x=some (.builtin id)) (hg1:Gl X y) (hm1:X.mg y=none) (hv1:bootBuiltins y=some (.type T)) (ha:PA X (e::es) (tMA X.K g ε mr)) (hn:x≠"__name__" := by decide) (hdb:(x == ("__debug__" : Str))=false:=by decide) (hn1:y≠"__name__" := by decide) (hdb1:(y == ("__debug__" : Str))=false:=by decide)
  (he1:starEach (e::es) X.env=(false,eval e X.env)::starEach es X.env:=by rfl) (hpl1:(backTo pos1 (starEach es X.env)).any (·.1)=false:=by rfl)
  (he:starEach [Expr.Call (.Name y q) (e::es) [] pos1] X.env=(false,eval (Expr.Call (.Name y q) (e::es) [] pos1) X.env)::starEach [] X.env:=by rfl) (hpl:(backTo pos (starEach [] X.env)).any (·.1)=false:=by rfl) :
  PE X (.Call (.Name x p) [.Call (.Name y q) (e::es) [] pos1] [] pos) (tM X.K g ε (ah f mr)):=
 PE.imp (oW hc2 hg hm hv (i8 (i7 hc1 hg1 hm1 hv1 ha hn1 hdb1 he1 hpl1) oJ he) hn hdb he hpl) fun _ _ _ t=>(xB (f:=f) im t :)
end
end L2.FE
namespace L2.ST
open PySem PySem.W PySem.Spec PyProof.Rows PySem.Calls L2.Srt L2.SM
section
variable {prog:NC}{w:N4}{A:N1}{E:Ng->Nk->Prop}{s:Nk}{vs us:List Ng}{xss:List (List Int)}{h h':Heap}
theorem oV:∀{us:List Ng}{xs:List Int},IntsAre us xs->PySem.ItemsAre (intKind prog w) xs us
 | _,_,.nil=>.nil
 | _,_,.cons n t r=>.cons (intKind_is _ _ _ _) (oV r)
theorem By (r:Tps h us xss):∀(i:Nat) v , us[i]?=some v->∃a xs,v=.ref a/\xss[i]?=some xs/\TK prog w h xs a:=by
 induction r with
 | nil=>simp
 | @cons a o k us xs vs xss e1 e2 e3 e4 _ ih=>
  intro i v e
  cases i with
  | zero=>
   simp at e
   subst e
   exact⟨a,xs,rfl,rfl,o,us,k,e1,e2,e3,oV e4⟩
  | succ i=>simp_all
theorem C4 (a:Addr) (its:Array Ng):Src prog w "list" a its.size (fun i v=>its[i]?=some v) (fun h=>h.IsList a its) where
 obj:=fun h ⟨o,a,b,_⟩=>⟨o,a,b⟩
 keep:=fun h h' ⟨o,a,b⟩ k=>⟨o,k o a,b⟩
 iter:=fun A s hh x=>⟨_,_,(fun E Q hq=>RH x hq),(fun A' hh'=>Tf.list hh' _ a (by obtain⟨o,e,_⟩:=x;exact NA (Nh e)) its),⟨⟨_,Nm _ rfl,rfl,rfl⟩,by obtain⟨o,e,r⟩:=x;exact⟨o,k3 _ e,r⟩⟩⟩
 s1:=F.sub_list_set
 s2:=F.sub_list_frozenset
 nd:=by decide
noncomputable def WSt (w:N4) (o:Obj) (us:List Ng):Prop:=∃es ep t,o.ExactSet/\o.data=.set es ep t/\Gd (byT w) t es.size/\(es.toList.map (·.2)).Perm us
theorem Bv {B:N1}{Er:Ng->Nk->Prop}{z:Nk}{a:Addr}{its:Array Ng}{xss:List (List Int)}{Q:Ng->Nk->Prop}
  (hh:B.handled=none) (hu:B.units+20<cLine) (ht:z.heap.IsList a its) (hi:Tps z.heap its.toList xss) (nd:xss.Nodup) (hb:its.size<=306)
  (fin:∀(g':Heap) (tk:Nat) o,g'.get? z.heap.objs.size=some o->WSt w o its.toList->(∀b o,b<z.heap.objs.size->z.heap.get? b=some o->g'.get? b=some o)->Q (.ref z.heap.objs.size) { z with heap:=g',toks:=tk }) :
  wpAny (model prog w) B (call (.type "set") [.ref a]) Q Er z:=by
 have hl:=hi.len
 rw[Nu] at hl
 refine Gh (C4 a its) hh ht (fun i h=>(∀b o,b<z.heap.objs.size->z.heap.get? b=some o->h.get? b=some o)/\∃es,HG w h z.heap.objs.size es/\(es.toList.map (·.2)).Perm (its.toList.take i)) ?_ ?_ ?_ ?_
 ·intro h e k
  exact⟨fun b o _ q=>k b o q,#[],⟨_,_,_,e,⟨rfl,rfl,rfl⟩,rfl,F6 _⟩,by simp⟩
 ·rintro i h h' ⟨kp,es,⟨o,ep,t,e,r⟩,q⟩ k
  exact⟨fun b o hb e=>k b o (NA (P1 hb)) (kp b o hb e),es,⟨o,ep,t,k _ o (NA (OS _)) e,r⟩,q⟩
 ·rintro A i v s Q E hu' hi' hp ⟨kp,es,hS,pm⟩ hq
  have hit:its.toList[i]?=some v:=by rw[Nr];exact hp
  have hi2:=hi.keeps fun b o q=>kp b o (Nh q) q
  obtain⟨b,xs,rfl,ex,tk⟩:=By hi2 i v hit
  have sz:es.size=i:=by
   have:=pm.length_eq
   rw[Nw,Nu,NH,Nu] at this
   lia
  have tu:Ho prog w s.heap es.toList xs:=fun e he=>by
   have m:=pm.mem_iff.mp (Rx.mpr ⟨e,he,rfl⟩)
   obtain⟨j,hj,ej⟩:=OW m
   rw[NH] at hj
   have:its.toList[j]?=some e.2:=by
    rw[<- ej,QK,Np]
   obtain⟨b',ys,e1,e2,e3⟩:=By hi2 j e.2 this
   refine⟨ys,b',e1,e3,fun z=>?_⟩
   subst z
   have hx:i<xss.length:=by lia
   have hy:j<xss.length:=by lia
   rw[Np hx] at ex
   rw[Np hy] at e2
   have:=(List.getElem_inj nd).mp (show xss[i]=xss[j] by rw[N5 ex,N5 e2])
   lia
  refine Oe ?_
  have hA:A.units<cLine:=by lia
  refine gV (wpAny_pyHash_tuple hA tk ?_)
  refine ED (s:={ s with toks:=s.toks+(xs.length+1) }) hS (by lia) hA tk tu fun h' es' sb hS' pm'=>?_
  refine hq true h' _ sb ⟨fun b o hb e=>?_,es',hS',?_⟩
  ·rw[sb.2 b (NA hb)];exact kp b o hb e
  ·have:=pm'.map fun e=>e.2
   rw[Ou] at this
   refine this.trans ?_
   rw[List.take_succ,hit]
   exact QU.append_right _ pm
 ·rintro g' tk ⟨_,es,⟨o,ep,t,e,hx,hd,g⟩,pm⟩ kp
  rw[N2 (by rw[Nu];exact Ni _)] at pm
  exact fin g' tk o e ⟨es,ep,t,hx,hd,g,pm⟩ kp
end
end L2.ST
namespace L2
open PySem PySem.Spec PyProof.Rows L2.ST L2.Srt
structure OkV (xss:List (List Int)):Prop where
 hz:xss.length<=306
 bd:∀xs∈xss,Bd xs/\xs.length<=20
 nd:(xss.map (kT 20)).Nodup
 ne:∀xs∈xss,xs≠[]
theorem qj {α β:Type}{f:α->β}:∀{l:List α},(l.map f).Nodup->l.Nodup
 | [],_=>.nil
 | x::l,h=>by
  obtain⟨a,b⟩:=Of.mp h
  exact Of.mpr ⟨fun z=>a (Rx.mpr ⟨x,z,rfl⟩),qj b⟩
section
variable {X:Cx}
theorem zm (hc:X.calm=true) (hu:X.A.units+64<cLine):bB X (.type "set") (fun vs H Q=>∃p xs xss,vs=[.ref p]/\SqL X.K H p xs/\TpV X.K H xs xss/\OkV xss/\∀l o us,H l=none->WSt X.w o us->Vals xs us->Q (.ref l) (upd H l (FE.AtO l o))):=by
 intro pins s σ H xs0 us0 Q I r h
 obtain⟨p,xs,xss,rfl,hq,pr,ok,q⟩:=h
 obtain⟨u,rfl,rx⟩:=vals1 r
 cases rx
 obtain⟨its,rv,pl,hz⟩:=I.list hq
 have lx:=pr.len
 have li:=rv.length
 have h0:=ok.hz
 refine Bv (I.ok.hd hc) (by lia) pl.isList (by simpa using I.tps pr rv) (qj ok.nd) (by simp_all) fun g' tk o e hW hk=>?_
 exact⟨.ref s.heap.objs.size,_,I.laid (fun b o e=>hk b o (Nh e) e) (Ni _) (Jj e),rfl,q _ _ its (I.hok.fresh (Ni _)) (by lia) rv⟩
theorem wd:bB X (.builtin "len") (fun vs H Q=>∃p o us,vs=[.ref p]/\H p=some (FE.AtO p o)/\WSt X.w o us/\Q (.int us.length) H):=by
 intro pins s σ H xs us0 Q I r h
 obtain⟨p,o,us,rfl,hp,⟨es,ep,t,hx,hd,g,pm⟩,q⟩:=h
 obtain⟨u,rfl,rx⟩:=vals1 r
 cases rx
 have ho:=(I.hok p _ hp).1
 have hl:us.length=es.size:=by rw[<- pm.length_eq,Nw,Nu]
 have hb:(es.size:Int)<2 ^ 63:=by
  have:es.size<=306:=by rcases g.rng with h | h | h | h<;>lia
  lia
 rw[hl] at q
 exact PySem.call_len_set ho hx hd g.fits hb ⟨.int es.size,H,I.tok _,⟨_,rfl⟩,q⟩
end
end L2
namespace L2.FE
open PySem PySem.Spec PyProof.Rows L2.ST L2.Srt
noncomputable def okV (xss:List (List Int)):Bool:=decide (xss.length<=306)&&xss.all (fun xs=>!xs.isEmpty&&decide (xs.length<=20)&&xs.all fun x=>decide (0<=x/\x<=98))&&decide ((xss.map (kT 20)).Nodup)
theorem He {xss:List (List Int)} (e:okV xss=true):OkV xss:=by
 unfold okV at e
 simp only[NQ,decide_eq_true_eq,NU] at e
 obtain⟨⟨hz,al⟩,nd⟩:=e
 refine⟨hz,fun xs hx=>⟨fun x hx'=>(al xs hx).2 x hx',(al xs hx).1.2⟩,nd,fun xs hx z=>?_⟩
 have:=(al xs hx).1.1
 rw[z] at this;simp at this
noncomputable def lI:List D->Hh->R D:=fun ds h=>match ds with
 | [d]=>match kS d h with
  | some xs=>match i6 xs with
   | some xss=>if okV xss=true then .ok (.int xss.length) h else .bad
   | none=>.bad
  | none=>.bad
 | _=>.bad
section
variable {K:ab}{g:GG}{ε:EE}{w:N4}
theorem Ey (r:aV K g α H h) (rd:aL K g α H d x) (e:kS d h=some ds):∃p vs,x=.ref p/\SqL K H p vs/\au K g α H ds vs:=by
 cases rd with
 | frl hq rs=>cases e;exact⟨_,_,rfl,hq.sq,rs⟩
 | ref hp=>obtain⟨vs,hv,rs⟩:=r.lst e hp;exact⟨_,vs,rfl,SqL.of hv,rs⟩
 | _=>cases e
theorem D3:kl K g ε lI (fun vs H Q=>∃p xs xss,vs=[.ref p]/\SqL K H p xs/\TpV K H xs xss/\OkV xss/\∀l o us,H l=none->WSt w o us->Vals xs us →
  ∃p' o' us',[V.ref l]=[V.ref p']/\upd H l (AtO l o) p'=some (AtO p' o')/\WSt w o' us'/\Q (.int us'.length) (upd H l (AtO l o))):=by
 intro α H h a x Q r ra w
 cases ra with
 | nil=>exact w.elim
 | cons rd rr=>
  cases rr with
  | cons _ _=>exact w.elim
  | nil=>
   unfold lI at w
   dsimp only at w
   cases e0:kS _ h with
   | none=>rw[e0] at w;exact w.elim
   | some ds=>
    rw[e0] at w
    dsimp only at w
    obtain⟨p,vs,rfl,hq,rs⟩:=Ey r rd e0
    cases e:i6 ds with
    | none=>rw[e] at w;exact w.elim
    | some xss=>
     rw[e] at w
     obtain⟨ok,w⟩:=WQ.dO w
     obtain⟨pr,rfl⟩:=nh rs e
     refine⟨p,vs,xss,rfl,hq,pr,He ok,fun l o us hl hW rv=>⟨l,o,us,rfl,bp,hW,?_⟩⟩
     have:us.length=xss.length:=by rw[<- rv.length,pr.len]
     rw[this]
     exact(show aO K g α H Q _ _ from w) _ _ α (Ext.fresh hl) (r.grow hl) (.int _)
end
end L2.FE
namespace FC
open PySem L2 L2.FE
noncomputable def bY:MF:=bN 2 (ax (bR (aB asB (aq dLt (af 1) (ah bH (ae (af 0) aj)))) (aU (aq dIx (af 0) (af 1))) bc)
  (aU (cC (.int 0))))
noncomputable def cj:MF:=bN 2 (ax (bf 1 (ah BD (ae (af 0) (ae (aq dm (cC (.int 0)) (af 0)) aj))))
  (aU (ah (jd tD) (ae (af 1) (ae (ah yX (ae (aq dGe (af 1) (aq GZ (cC (.int 10)) (cC (.int 18)))) aj)) (ae (aq nc (af 1) (cC (.int 1000003))) aj))))))
noncomputable def dF:MF:=bN 1 (ax (bf 0 (aq nc (aq (aW ay) (af 0) (cC (.int 7919))) (cC (.int 2147483647))))
  (aU (aq nc (aq (aW ay) (aq (aW ay) (aq (ll ay) (af 0) (af 0)) (aq (ll ay) (cC (.int 48271)) (af 0))) (cC (.int 12345))) (cC (.int 2147483629)))))
noncomputable def aH:MF:=bN 3 (ax (bR (qJ (aB asB (aq dEq (aq dIx (af 0) (cC (.int 1))) (cC (.int 1)))) (aB asB (aq dGt (aq dIx (af 0) (cC (.int 0))) (cC (.int 0))))) (ax (bf 2 (aq nc (aq dIx (af 0) (cC (.int 0))) (af 1)))
  (ax (jF jL (af 0) (cC (.int 0)) (aq tZ (aq dIx (af 0) (cC (.int 0))) (af 1)))
  (aU (af 2)))) bc)
  (ax (jF jL (af 0) (cC (.int 2)) (ah dF (ae (aq (aW ay) (ah dF (ae (aq dIx (af 0) (cC (.int 2))) aj)) (cC (.int 7))) aj)))
  (aU (aq nc (aq tZ (aq dIx (af 0) (cC (.int 2))) (cC (.int 64))) (af 1)))))
noncomputable def g8:MF:=bN 1 (aU (xW (cUn (pD "int") (af 0)) (EI (cUn (pD "bool") (af 0)))))
noncomputable def bo:MF:=bN 3 (aU (xW (ah g8 (ae (af 0) aj)) (gz dLe dLe (af 1) (af 0) (af 2))))
noncomputable def aF:MF:=bN 3 (bR (cQ (aB gR (ah bo (ae (af 0) (ae (af 1) (ae (af 2) aj)))))) uz bc)
noncomputable def bA:MF:=bN 2 (ax (cK (ah aF (ae (af 0) (ae (cC (.int 1)) (ae (cC (.int 12)) aj)))))
  (cK (ah aF (ae (af 1) (ae (cC (.int 0)) (ae (cC (.int 12)) aj))))))
noncomputable def eB:MF:=lq (fun ds h=>((bN 3 (ax (bR (gy (cQ (aB gR (cUn (pD "tuple") (af 1)))) (aB asB (aq dGt (ah bH (ae (af 1) aj)) (af 0)))) (aU (cC (.bl false))) bc)
  (ax (fC (df (af 1)) (gN 2) (bR (cQ (aB gR (ah bo (ae (af 2) (ae (cC (.int 0)) (ae (aq dm (af 0) (cC (.int 1))) aj)))))) (aU (cC (.bl false))) bc))
  (aU (aq dEq (ah bH (ae (ah zd (ae (af 1) aj)) aj)) (ah bH (ae (af 1) aj))))))) ds h).bind (di h))
noncomputable def dz:MF:=bN 2 (bR (cQ (aB gR (ah eB (ae (af 0) (ae (af 1) aj))))) uz bc)
noncomputable def hG:MF:=bN 1 (ax (bR (aB asB (aq dEq (ah bH (ae (af 0) aj)) (cC (.int 0)))) (aU (cC (.int 0))) bc)
  (aU (aq dm (aq dIx (af 0) (cUn wW (cC (.int 1)))) (ah bH (ae (cN ay (df (af 0)) [0] (aB asB (aq dLt (af 0) (aq dIx (af 1) (cUn wW (cC (.int 1)))))) (af 0)) aj)))))
noncomputable def bu:MF:=bN 1 (aU (ah eC (ae (cN ay (iD jg (ae (aq dm (ah bH (ae (af 0) aj)) (cC (.int 1))) aj)) [0] (aB asB (aq dGt (aq dIx (af 1) (af 0)) (aq dIx (af 1) (aq (aW ay) (af 0) (cC (.int 1)))))) (af 0)) aj)))
noncomputable def ck:MF:=bN 5 (ax (bf 3 (aq dIx (aq dIx (af 0) (aq dm (aq dm (ah bH (ae (af 0) aj)) (cC (.int 1))) (ah bH (ae (af 2) aj)))) (ah hG (ae (af 2) aj))))
  (ax (bf 4 (aq dm (af 1) (ah bH (ae (ah bu (ae (af 2) aj)) aj))))
  (aU (cIf (aB asB (gz dLe dLt (cC (.int 0)) (af 4) (ah bH (ae (af 3) aj)))) (aq dIx (af 3) (af 4)) (cC (.int 0))))))
noncomputable def gF:MF:=lq (fun ds h=>((bN 8 (ax (bf 2 (aq (ll tD) (ah (jd ay) (ae (cC (.int 0)) aj)) (aq (aW ay) (ah bH (ae (af 0) aj)) (cC (.int 1)))))
  (ax (fC (iG (af 0)) (gT2 3 4) (ax (bf 5 (cIf (aB asB (aq dLt (af 3) (af 1))) (cC (.int 1)) (cC (.int 0))))
  (fC (iG (af 4)) (gT2 6 7) (Ar (af 2) (aq (aW ay) (af 6) (af 5)) (af 7)))))
  (aU (af 2))))) ds h).bind (di h))
noncomputable def fS:MF:=lq (fun ds h=>((bN 3 (ax (bf 1 (ah (jd tD) (ae (ah (jd ay) (ae (ah (jd ay) (ae (cC (.int 1)) aj)) aj)) aj)))
  (ax (fC (iD D1 (ae (cC (.int 1)) (ae (aq (aW ay) (af 0) (cC (.int 1))) aj))) (gN 2) (cK (g_ rV (af 1) (ae (cN ay (iD jg (ae (aq (aW ay) (af 2) (cC (.int 1))) aj)) [1] tt1 (ah gF (ae (aq dIx (af 1) (cUn wW (cC (.int 1)))) (ae (af 0) aj)))) aj))))
  (aU (af 1))))) ds h).bind (di h))
noncomputable def c5:MF:=bN 3 (ax (cK (ah bA (ae (af 0) (ae (af 1) aj))))
  (ax (cK (ah dz (ae (af 0) (ae (af 2) aj))))
  (aU (ah ck (ae (ah fS (ae (af 0) aj)) (ae (af 1) (ae (af 2) aj)))))))
noncomputable def bI:MF:=bN 2 (ax (cK (ah aF (ae (af 0) (ae (cC (.int 1)) (ae (cC (.int 30)) aj)))))
  (cK (ah aF (ae (af 1) (ae (cC (.int 0)) (ae (cC (.int 30)) aj))))))
noncomputable def ic:MF:=bN 3 (ax (bf 1 (aq (aW ay) (ah bH (ae (af 0) aj)) (cC (.int 1))))
  (ax (bf 2 (aq (aW ay) (aq (aW ay) (ah (jd ay) (ae (cC (.int 0)) aj)) (af 0)) (ah (jd ay) (ae (cC (.int 0)) aj))))
  (aU (cN ay (iD jg (ae (af 1) aj)) [2,1] tt1 (aq (aW ay) (aq (ll ay) (aq (aW ay) (af 0) (cC (.int 1))) (aq dIx (af 1) (aq (aW ay) (af 0) (cC (.int 1))))) (aq (ll ay) (aq dm (af 2) (af 0)) (aq dIx (af 1) (af 0))))))))
noncomputable def a_:MF:=bN 2 (ax (cK (ah aF (ae (af 0) (ae (cC (.int 1)) (ae (cC (.int 30)) aj)))))
  (ax (bf 1 (ah (jd ay) (ae (cC (.int 1)) aj)))
  (ax (Cq 64 (aB asB (aq dLt (ah bH (ae (af 1) aj)) (af 0))) (bf 1 (ah ic (ae (af 1) aj))))
  (aU (af 1)))))
noncomputable def dw:MF:=bN 2 (ax (cK (ah bI (ae (af 0) (ae (af 1) aj))))
  (aU (ah Cn (ae (fH ay (ah a_ (ae (af 0) aj)) (gi (af 1)) (gi (aq (aW ay) (af 1) (cC (.int 1))))) aj))))
noncomputable def bM:MF:=bN 2 (aU (aq (ll ay) (aq (aW ay) (af 1) (cC (.int 1))) (ah dw (ae (aq dm (af 0) (cC (.int 1))) (ae (af 1) aj)))))
noncomputable def dN:MF:=lq (fun ds h=>((bN 2 (ax (bR (gy (cQ (aB gR (cUn (pD "tuple") (af 0)))) (cQ (aB asB (gz dLe dLe (cC (.int 1)) (ah bH (ae (af 0) aj)) (cC (.int 20)))))) (aU (cC (.bl false))) bc)
  (ax (fC (df (af 0)) (gN 1) (bR (cQ (aB gR (ah bo (ae (af 1) (ae (cC (.int 0)) (ae (aq dm (ah bH (ae (af 0) aj)) (cC (.int 1))) aj)))))) (aU (cC (.bl false))) bc))
  (aU (aq dEq (ah bH (ae (ah zd (ae (af 0) aj)) aj)) (ah bH (ae (af 0) aj))))))) ds h).bind (di h))
noncomputable def aR:MF:=bN 1 (bR (cQ (aB gR (ah dN (ae (af 0) aj)))) uz bc)
noncomputable def cx:MF:=bN 2 (ax (cK (ah aR (ae (af 0) aj)))
  (ax (cK (ah aF (ae (af 1) (ae (cC (.int 0)) (ae (ah bH (ae (af 0) aj)) aj)))))
  (ax (bR (aB asB (aq dEq (ah bH (ae (af 0) aj)) (cC (.int 20)))) uz bc)
  (aU (aq (aW ay) (aq (aW ay) (fH ay (af 0) gg (gi (af 1))) (ah ip (ae (ah bH (ae (af 0) aj)) aj))) (fH ay (af 0) (gi (af 1)) gg))))))
noncomputable def dy:MF:=bN 1 (ax (cK (ah aR (ae (af 0) aj)))
  (aU (ah bu (ae (af 0) aj))))
noncomputable def aP:MF:=bN 1 (aU (aq (aW ay) (ah eC (ae (cN ay (df (ah dy (ae (af 0) aj))) [] tt1 (aq (aW ay) (af 0) (cC (.int 1)))) aj)) (ah ip (ae (ah bH (ae (af 0) aj)) aj))))
noncomputable def a9:MF:=bN 2 (ax (bf 1 (ah aP (ae (af 0) aj)))
  (aU (ah eC (ae (cN ay (iD jg (ae (ah bH (ae (af 0) aj)) aj)) [1] (aB asB (aq (dIn true) (af 0) (af 1))) (af 0)) aj))))
noncomputable def bP:Nat->MF
 | 0=>fun _ _=>.bad
 | d+1=>bN 6 (ax (bR (aB asB (aq dEq (af 0) (cC (.int 1)))) (aU (ah ip (ae (cC (.int 0)) aj))) bc)
  (ax (bf 3 (ah bM (ae (af 0) (ae (af 1) aj))))
  (ax (bR (aB asB (aq dLt (af 2) (af 3))) (ax (bf 4 (ah (bP d) (ae (aq dm (af 0) (cC (.int 1))) (ae (af 1) (ae (aq tZ (af 2) (aq (aW ay) (af 1) (cC (.int 1)))) aj)))))
  (aU (ah cx (ae (af 4) (ae (aq dIx (ah aP (ae (af 4) aj)) (aq nc (af 2) (aq (aW ay) (af 1) (cC (.int 1))))) aj))))) bc)
  (ax (bf 5 (aq dm (af 2) (af 3)))
  (ax (bf 4 (ah (bP d) (ae (aq dm (af 0) (cC (.int 1))) (ae (aq dm (af 1) (cC (.int 1))) (ae (aq tZ (af 5) (aq dm (af 0) (af 1))) aj)))))
  (aU (ah cx (ae (af 4) (ae (aq dIx (ah a9 (ae (af 4) aj)) (aq nc (af 5) (aq dm (af 0) (af 1)))) aj)))))))))
theorem rX (d:Nat):bP (d+1)=bN 6 (ax (bR (aB asB (aq dEq (af 0) (cC (.int 1)))) (aU (ah ip (ae (cC (.int 0)) aj))) bc)
  (ax (bf 3 (ah bM (ae (af 0) (ae (af 1) aj))))
  (ax (bR (aB asB (aq dLt (af 2) (af 3))) (ax (bf 4 (ah (bP d) (ae (aq dm (af 0) (cC (.int 1))) (ae (af 1) (ae (aq tZ (af 2) (aq (aW ay) (af 1) (cC (.int 1)))) aj)))))
  (aU (ah cx (ae (af 4) (ae (aq dIx (ah aP (ae (af 4) aj)) (aq nc (af 2) (aq (aW ay) (af 1) (cC (.int 1))))) aj))))) bc)
  (ax (bf 5 (aq dm (af 2) (af 3)))
  (ax (bf 4 (ah (bP d) (ae (aq dm (af 0) (cC (.int 1))) (ae (aq dm (af 1) (cC (.int 1))) (ae (aq tZ (af 5) (aq dm (af 0) (af 1))) aj)))))
  (aU (ah cx (ae (af 4) (ae (aq dIx (ah a9 (ae (af 4) aj)) (aq nc (af 5) (aq dm (af 0) (af 1)))) aj))))))))):=rfl
noncomputable def f7:MF:=bN 3 (ax (cK (ah aF (ae (af 0) (ae (cC (.int 1)) (ae (cC (.int 20)) aj)))))
  (ax (cK (ah aF (ae (af 1) (ae (cC (.int 0)) (ae (cC (.int 20)) aj)))))
  (ax (cK (ah aF (ae (af 2) (ae (cC (.int 0)) (ae (aq dm (ah dw (ae (af 0) (ae (af 1) aj))) (cC (.int 1))) aj)))))
  (aU (ah (bP 7) (ae (af 0) (ae (af 1) (ae (af 2) aj))))))))
noncomputable def aM:Nat->MF
 | 0=>fun _ _=>.bad
 | d+1=>bN 6 (ax (cK (ah aR (ae (af 0) aj)))
  (ax (zf 1 2 (ae (ah bH (ae (af 0) aj)) (ae (ah bH (ae (ah bu (ae (af 0) aj)) aj)) aj)))
  (ax (bR (aB asB (aq dEq (af 1) (cC (.int 1)))) (aU (cC (.int 0))) bc)
  (ax (bf 3 (gH dq (af 0) (ae (aq dm (af 1) (cC (.int 1))) aj)))
  (ax (bf 4 (aq (aW ay) (fH ay (af 0) gg (gi (af 3))) (fH ay (af 0) (gi (aq (aW ay) (af 3) (cC (.int 1)))) gg)))
  (ax (bf 5 (ah aP (ae (af 4) aj)))
  (ax (bR (aB asB (aq (dIn false) (af 3) (af 5))) (aU (aq (aW ay) (aq (ll ay) (ah (aM d) (ae (af 4) aj)) (aq (aW ay) (af 2) (cC (.int 1)))) (gH dq (af 5) (ae (af 3) aj)))) bc)
  (aU (aq (aW ay) (aq (aW ay) (ah bM (ae (af 1) (ae (af 2) aj))) (aq (ll ay) (ah (aM d) (ae (af 4) aj)) (aq dm (af 1) (af 2)))) (gH dq (ah a9 (ae (af 4) aj)) (ae (af 3) aj)))))))))))
theorem eh (d:Nat):aM (d+1)=bN 6 (ax (cK (ah aR (ae (af 0) aj)))
  (ax (zf 1 2 (ae (ah bH (ae (af 0) aj)) (ae (ah bH (ae (ah bu (ae (af 0) aj)) aj)) aj)))
  (ax (bR (aB asB (aq dEq (af 1) (cC (.int 1)))) (aU (cC (.int 0))) bc)
  (ax (bf 3 (gH dq (af 0) (ae (aq dm (af 1) (cC (.int 1))) aj)))
  (ax (bf 4 (aq (aW ay) (fH ay (af 0) gg (gi (af 3))) (fH ay (af 0) (gi (aq (aW ay) (af 3) (cC (.int 1)))) gg)))
  (ax (bf 5 (ah aP (ae (af 4) aj)))
  (ax (bR (aB asB (aq (dIn false) (af 3) (af 5))) (aU (aq (aW ay) (aq (ll ay) (ah (aM d) (ae (af 4) aj)) (aq (aW ay) (af 2) (cC (.int 1)))) (gH dq (af 5) (ae (af 3) aj)))) bc)
  (aU (aq (aW ay) (aq (aW ay) (ah bM (ae (af 1) (ae (af 2) aj))) (aq (ll ay) (ah (aM d) (ae (af 4) aj)) (aq dm (af 1) (af 2)))) (gH dq (ah a9 (ae (af 4) aj)) (ae (af 3) aj))))))))))):=rfl
noncomputable def dS:MF:=Ii 3 (bf 2 (ah fS (ae (af 0) aj))) "begun_count" [2,1]
noncomputable def gA:MF:=bN 1 (bR (aB asB (aq dGt (af 0) (cC (.int 300)))) uz bc)
noncomputable def wI:Str->Option (Nat × MF):=fun x=>if x="begun_count" then some (3,ck) else none
@[simp] theorem y0:wI "begun_count" = some (3,ck):=by kernel_rfl
noncomputable def gj:MF:=bN 4 (ax (bf 3 (cN ay (iD jg (ae (af 0) aj)) [1] (aB asB (aq (dIn true) (af 0) (af 1))) (aq (aW ay) (af 1) (ah ip (ae (af 0) aj)))))
  (aU (cN ay (df (af 3)) [2] (aB asB (aq dGt (xr wI (af 1) (ae (af 0) aj)) (cC (.int 0)))) (af 0))))
noncomputable def eU:MF:=lq (fun ds h=>((bN 4 (ax (bf 2 (ah (jd ay) (ae (ah ip aj) aj)))
  (ax (fC (iD jg (ae (af 0) aj)) (gN 3) (bf 2 (xF (df (af 2)) [0,1] (df (ah gj (ae (af 2) (ae (af 0) (ae (af 3) aj))))) (af 1))))
  (aU (af 2))))) ds h).bind (di h))
noncomputable def c_:MF:=bN 3 (ax (cK (ah bA (ae (af 0) (ae (af 1) aj))))
  (ax (bf 2 (ah dS (ae (af 0) (ae (af 1) aj))))
  (ax (cK (ah gA (ae (xr wI (af 2) (ae (ah ip aj) aj)) aj)))
  (aU (ah eU (ae (af 0) (ae (af 2) aj)))))))
noncomputable def bD:MF:=bN 2 (aU (ah eC (ae (cN ay (df (af 0)) [1] (aB asB (aq dLe (af 0) (af 1))) (af 0)) aj)))
noncomputable def bO:MF:=bN 1 (ax (cK (ah aR (ae (af 0) aj)))
  (aU (ah eC (ae (cN ay (iD jg (ae (ah bH (ae (af 0) aj)) aj)) [0] tt1 (ah bH (ae (ah bu (ae (ah bD (ae (af 1) (ae (af 0) aj))) aj)) aj))) aj))))
noncomputable def i5:MF:=bN 4 (ax (bR (gy (cQ (aB gR (cUn (pD "tuple") (af 0)))) (cQ (aB asB (gz dLe dLe (cC (.int 1)) (ah bH (ae (af 0) aj)) (cC (.int 20)))))) (aU (cC (.bl false))) bc)
  (ax (JC 1 2 (ah ip (ae (cC (.int 0)) (ae (cC (.int 0)) aj))))
  (ax (fC (df (af 0)) (gN 3) (ax (bR (cQ (aB gR (ah bo (ae (af 3) (ae (af 1) (ae (af 2) aj)))))) (aU (cC (.bl false))) bc)
  (zf 1 2 (ae (af 3) (ae (aq (aW ay) (af 3) (cC (.int 1))) aj)))))
  (aU (cC (.bl true))))))
noncomputable def dH:MF:=bN 4 (ax (bR (cQ (aB gR (ah i5 (ae (af 0) aj)))) uz bc)
  (ax (bf 1 (cC (.int 1)))
  (ax (fC (iD D1 (ae (cC (.int 1)) (ae (ah bH (ae (af 0) aj)) aj))) (gN 2) (ax (bf 3 (aq dIx (af 0) (aq dm (af 2) (cC (.int 1)))))
  (JK 1 EU (cIf (aB asB (aq dEq (aq dIx (af 0) (af 2)) (af 3))) (aq (aW ay) (af 3) (cC (.int 1))) (aq dm (af 2) (af 3))))))
  (aU (af 1)))))
noncomputable def cG:MF:=fun ds h=>((bN 3 (ax (bf 2 (ah (e7 tD) (ae (af 1) aj)))
  (aU (ah eC (ae (cN ay (iD jg (ae (af 1) aj)) [2,0] tt1 (g_ vL (af 1) (ae (ah aH (ae (af 2) (ae (ah bH (ae (af 1) aj)) aj))) aj))) aj))))) ds h).bind (di h)
noncomputable def bq:MF:=bN 1 (aU (ah bH (ae (ah dy (ae (af 0) aj)) aj)))
noncomputable def bV:MF:=bN 1 (ax (cK (ah aR (ae (af 0) aj)))
  (aU (ah eC (ae (cN ay (iD jg (ae (ah bH (ae (af 0) aj)) aj)) [0] tt1 (gH dq (ah bD (ae (af 1) (ae (af 0) aj))) (ae (af 0) aj))) aj))))
noncomputable def dE:MF:=bN 3 (ax (bR (gy (cQ (aB gR (cUn (pD "tuple") (af 0)))) (cQ (aB asB (gz dLe dLe (cC (.int 1)) (ah bH (ae (af 0) aj)) (cC (.int 20)))))) (aU (cC (.bl false))) bc)
  (ax (fC (iG (af 0)) (gT2 1 2) (bR (cQ (aB gR (ah bo (ae (af 2) (ae (cC (.int 0)) (ae (af 1) aj)))))) (aU (cC (.bl false))) bc))
  (aU (cC (.bl true)))))
noncomputable def dC:MF:=lq (fun ds h=>((bN 4 (ax (bR (cQ (aB gR (ah dE (ae (af 0) aj)))) uz bc)
  (ax (bf 1 (ah (jd tD) aj))
  (ax (fC (iG (af 0)) (gT2 2 3) (cK (g_ gZ (af 1) (ae (af 3) (ae (af 2) aj)))))
  (aU (ah eC (ae (af 1) aj))))))) ds h).bind (di h))
noncomputable def nJ:MF:=fun ds h=>((bN 15 (ax (fC (df (aq (aW ay) (ah (jd ay) (ae (ah bY (ae (af 0) (ae (cC (.int 0)) aj))) aj)) (fH ay (af 0) (gi (cC (.int 1))) (gi (cC (.int 3)))))) (gN 1) (ax (bf 2 (ah cj (ae (af 1) aj)))
  (ax (bf 3 (aq (aW ay) (cC (.int 1)) (ah aH (ae (af 2) (ae (cC (.int 6)) aj)))))
  (ax (bf 4 (ah aH (ae (af 2) (ae (af 3) aj))))
  (ax (bf 5 (ah c5 (ae (af 3) (ae (af 4) (ae (ah ip aj) aj)))))
  (ax (bf 6 (cN ay (iD jg (ae (af 5) aj)) [3,4] tt1 (ah f7 (ae (af 1) (ae (af 2) (ae (af 0) aj))))))
  (ax (bR (aB asB (aq dNe (cN ay (df (af 6)) [] tt1 (ah (aM 7) (ae (af 0) aj))) (ah (e7 ay) (ae (af 5) aj)))) (aU (cC (.bl false))) bc)
  (ax (bR (gy (qJ (aB asB (aq dLt (af 5) (cC (.int 301)))) (aB asB (aq dNe (ah (iC ay) (ae (af 6) aj)) (ah c_ (ae (af 3) (ae (af 4) aj)))))) (aB asB (aq dNe (ah lI (ae (af 6) aj)) (af 5)))) (aU (cC (.bl false))) bc)
  (ax (bf 7 yR)
  (ax (fC (df (af 6)) (gN 8) (jF qK (af 7) (ah bO (ae (af 8) aj)) (aq (aW ay) (rl (af 7) (ah bO (ae (af 8) aj)) (cC (.int 0))) (cC (.int 1)))))
  (ax (fC (df (ah (jM ay) (ae (af 7) aj))) (gN 9) (bR (gy (aB asB (aq dNe (ah dH (ae (af 9) aj)) (aq qr (af 7) (af 9)))) (aB asB (aq dNe (aq dIx (af 9) (cUn wW (cC (.int 1)))) (af 4)))) (aU (cC (.bl false))) bc))
  (ax (bf 10 (ah cG (ae (af 2) (ae (aq (aW ay) (cC (.int 1)) (ah aH (ae (af 2) (ae (cC (.int 19)) aj)))) aj))))
  (ax (bf 11 (ah aP (ae (af 10) aj)))
  (ax (bR (gy (aB asB (aq dNe (ah bH (ae (af 11) aj)) (aq (aW ay) (ah bq (ae (af 10) aj)) (cC (.int 1))))) (aB asB (aq dNe (ah (lP ay) (ae (aq (aW ay) (af 11) (ah a9 (ae (af 10) aj))) aj)) (ah (e7 ay) (ae (aq (aW ay) (ah bH (ae (af 10) aj)) (cC (.int 1))) aj))))) (aU (cC (.bl false))) bc)
  (ax (bf 12 (ah aH (ae (af 2) (ae (aq (aW ay) (ah bH (ae (af 10) aj)) (cC (.int 1))) aj))))
  (ax (bf 13 (ah cx (ae (af 10) (ae (af 12) aj))))
  (ax (bf 14 (aq (aW ay) (ah bq (ae (af 10) aj)) (ah yX (ae (aq (dIn true) (af 12) (af 11)) aj))))
  (ax (bR (gy (aB asB (aq dNe (ah bq (ae (af 13) aj)) (af 14))) (aB asB (aq dNe (ah bO (ae (af 13) aj)) (aq (aW ay) (ah bO (ae (af 10) aj)) (ah ip (ae (af 14) aj)))))) (aU (cC (.bl false))) bc)
  (bR (gy (aB asB (aq dNe (ah bV (ae (af 13) aj)) (aq (aW ay) (ah bV (ae (af 10) aj)) (ah ip (ae (af 12) aj))))) (aB asB (aq dNe (ah dC (ae (ah bV (ae (af 13) aj)) aj)) (af 13)))) (aU (cC (.bl false))) bc)))))))))))))))))))
  (aU (cC (.bl true))))) ds h).bind (di h)
noncomputable def av (i:Nat):Stmt:=NG.main.body.getD i (.Pass ⟨0,0,0,0⟩)
structure Blt (mg:Str->Option Ng):Prop where
 bool:mg "bool" = none
 enumerate:mg "enumerate" = none
 int:mg "int" = none
 isinstance:mg "isinstance" = none
 len:mg "len" = none
 list:mg "list" = none
 max:mg "max" = none
 range:mg "range" = none
 set:mg "set" = none
 sorted:mg "sorted" = none
 sum:mg "sum" = none
 tuple:mg "tuple" = none
section
variable {P:NC}{w:N4}{K:ab}{mg:Str->Option Ng}{base:Heap}{g:GG}
local macro_rules | `($a :: $b) => `(@D8 _ _ _ _ _ _ _ $a $b rfl)
local macro_rules | `($a \/ $b) => `(@CB _ _ _ _ _ _ _ $a $b)
local macro_rules | `(!$a) => `(@Hz _ _ _ _ _ $a)
local macro_rules | `(-$a) => `(@JH _ _ _ _ _ _ $a)
local macro_rules | `($a ++ $b) => `(@lB _ _ _ _ _ _ _ _ _ _ _ GS Gw $a $b)
local macro_rules | `($a - $b) => `(@lB _ _ _ _ _ _ _ _ _ _ _ FV HR $a $b)
local macro_rules | `($a * $b) => `(@lB _ _ _ _ _ _ _ _ _ _ _ Fi Hg $a $b)
local macro_rules | `($a / $b) => `(@lB _ _ _ _ _ _ _ _ _ _ _ Az Fd $a $b)
local macro_rules | `($a % $b) => `(@lB _ _ _ _ _ _ _ _ _ _ _ HA G6 $a $b)
local macro_rules | `($a < $b) => `(@bZ _ _ _ _ _ _ _ _ _ _ _ E7 EH $a $b (bX _))
local macro_rules | `($a <= $b) => `(@bZ _ _ _ _ _ _ _ _ _ _ _ jt jv $a $b (bX _))
local macro_rules | `($a > $b) => `(@bZ _ _ _ _ _ _ _ _ _ _ _ Iy IK $a $b (bX _))
local macro_rules | `($a ^ $b) => `(@Kl _ _ _ _ _ _ _ _ _ _ HU Kw $a $b (fun _ _ => rfl))
local macro_rules | `($a >>= $b) => `(@JP _ _ _ _ _ _ $a _ _ (by assumption) rfl (by first | exact Or.inl rfl | exact Or.inr rfl) $b rfl (.inl rfl))
local macro_rules | `(~~~$a) => `(@HP _ _ _ _ _ _ _ $a)
local macro_rules | `(#[$a]) => `(@Ig _ _ _ _ _ _ _ _ $a)
local macro_rules | `(¬$a) => `(ir (i := $a) (by assumption) rfl (by first | exact Or.inl rfl | exact Or.inr rfl))
theorem mB:aA ["_law_script", "_law_k"] ["_law_script", "_law_k"] (ak (av 57)):=fsc ⟨rfl,rfl,rfl⟩ (by decide +kernel)
theorem lD (D:az K mg "_law_cell_at" (av 57)) (T:Blt mg):Has P w K mg base g "_law_cell_at" 1 ["_law_script", "_law_k"] bY:=by
 refine c6 D mB (bd2 fun _ _ _ _ _ _ _ _=>rfl) fun nd f cdv A outer s H E hr=>?_
 exact @dW _ _ _ _ _ _ _ _ _ _ (aa 1<aE bg bh rfl T.len Nn (aa 0::ai)) (!-(aa 0 ^ aa 1)) bj\/!-ar
theorem oU:aA ["_law_cell", "_law_left"] ["_law_cell"] (ak (av 59)):=fsc ⟨rfl,rfl,rfl⟩ (by decide +kernel)
theorem mn (D:az K mg "_law_pen_of" (av 59)) (T:Blt mg):Has P w K mg base g "_law_pen_of" 1 ["_law_cell"] cj:=by
 refine c6 D oU (bd1 fun _ _ _ _ _ _ _=>rfl) fun nd f cdv A outer s H E hr=>?_
 exact 1 >>= aE (z_ rfl) DI rfl T.max PyProof.Rows.boot_max (aa 0::(ar - aa 0)::ai)\/!-#[aa 1::bW qT A6 rfl T.int QW (@sL _ _ _ _ _ _ _ _ _ _ _ J8 Ji (aa 1) (@lB _ _ _ _ _ _ _ _ _ _ _ C0 Ge ar ar) (bX _)::ai)::aa 1 % ar::ai]
theorem sh:aA ["_law_seed"] ["_law_seed"] (ak (av 58)):=fsc ⟨rfl,rfl,rfl⟩ (by decide +kernel)
theorem pI (D:az K mg "_law_next" (av 58)) (T:Blt mg):Has P w K mg base g "_law_next" 1 ["_law_seed"] dF:=by
 refine c6 D sh (bd1 fun _ _ _ _ _ _ _=>rfl) fun nd f cdv A outer s H E hr=>?_
 exact 0 >>= (aa 0++ar) % ar\/!-((aa 0*aa 0++ar*aa 0++ar) % ar)
theorem tN:aA ["_law_pen", "_law_many", "_law_found"] ["_law_pen", "_law_many"] (ak (av 60)):=fsc ⟨rfl,rfl,rfl⟩ (by decide +kernel)
theorem pH (D:az K mg "_law_draw" (av 60)) (T:Blt mg) (eF:Has P w K mg base g "_law_next" 1 ["_law_seed"] dF):Has P w K mg base g "_law_draw" 2 ["_law_pen", "_law_many"] aH:=by
 refine c6 D tN (bd2 fun _ _ _ _ _ _ _ _=>rfl) fun nd f cdv A outer s H E hr=>?_
 exact @dW _ _ _ _ _ _ _ _ _ _ (PW.pt (@A4 _ _ _ _ _ _ _ _ _ (@bZ _ _ _ _ _ _ _ _ _ _ _ (i3 hr.units) lZ (aa 0 ^ ar) ar (bX _)) (@xU _ _ _ _ _ _ (aa 0 ^ ar > ar)))) (2 >>= aa 0 ^ ar % aa 1\/ym (aa 0 ^ ar / aa 1) (aa 0) ar set_list ou\/!-aa 2) bj\/ym (aZ eF hr ((aZ eF hr (aa 0 ^ ar::ai) (ag ao)++ar)::ai) (ag ao)) (aa 0) ar set_list ou\/!-(aa 0 ^ ar / ar % aa 1)
theorem vE:aA ["thing"] ["thing"] (ak (av 7)):=fsc ⟨rfl,rfl,rfl⟩ (by decide +kernel)
theorem tP (D:az K mg "is_whole" (av 7)) (T:Blt mg):Has P w K mg base g "is_whole" 1 ["thing"] g8:=by
 refine c6 D vE (bd1 fun _ _ _ _ _ _ _=>rfl) fun nd f cdv A outer s H E hr=>?_
 exact !-@BQ _ _ _ _ _ _ _ _ _ (kJ (aa 0) rfl T.isinstance rfl T.int QW) (@Cb _ _ _ _ _ _ _ (@FO _ _ _ _ _ _ (kJ (aa 0) rfl T.isinstance rfl T.bool PyProof.Rows.boot_bool)))
theorem sF:aA ["thing", "least", "most"] ["thing", "least", "most"] (ak (av 8)):=fsc ⟨rfl,rfl,rfl⟩ (by decide +kernel)
theorem pK (D:az K mg "is_within" (av 8)) (T:Blt mg) (hV:Has P w K mg base g "is_whole" 1 ["thing"] g8):Has P w K mg base g "is_within" 2 ["thing", "least", "most"] bo:=by
 refine c6 D sF (bd3 fun _ _ _ _ _ _ _ _ _=>rfl) fun nd f cdv A outer s H E hr=>?_
 exact !-@BQ _ _ _ _ _ _ _ _ _ (aZ hV hr (aa 0::ai) (ag ao)) (@Cb _ _ _ _ _ _ _ (AH jt jt jv jv (aa 1) (aa 0) (aa 2)))
theorem kP:aA ["thing", "least", "most"] ["thing", "least", "most"] (ak (av 9)):=fsc ⟨rfl,rfl,rfl⟩ (by decide +kernel)
theorem jZ (D:az K mg "number_needed" (av 9)) (T:Blt mg) (aS:Has P w K mg base g "is_within" 2 ["thing", "least", "most"] bo):Has P w K mg base g "number_needed" 3 ["thing", "least", "most"] aF:=by
 refine c6 D kP (bd3 fun _ _ _ _ _ _ _ _ _=>rfl) fun nd f cdv A outer s H E hr=>?_
 exact !@dW _ _ _ _ _ _ _ _ _ _ (@dg _ _ _ _ _ _ (@cz _ _ _ _ _ _ eg (aZ aS hr (aa 0::aa 1::aa 2::ai) (ag (ag (ag ao)))) (fun _=>rfl))) (!(PS.imp fM fun E σ H ⟨α,env,h,s,w⟩=>w.elim)) bj
theorem dk:aA ["n", "k"] ["n", "k"] (ak (av 44)):=fsc ⟨rfl,rfl,rfl⟩ (by decide +kernel)
theorem fY (D:k8 K mg "numbers_needed_listed" "numbers_needed" (av 44)) (T:Blt mg){jx:Tok} (eE:mg "MOST_LISTED" = some (.int 12 jx)) (aw:Has P w K mg base g "number_needed" 3 ["thing", "least", "most"] aF):Has P w K mg base g "numbers_needed_listed" 4 ["n", "k"] bA:=by
 obtain⟨f,fd,hm,F⟩:=D
 refine⟨f,fd,nE F dk (fun cdv A outer s H E hr=>?_),F.kp,F.binds (fun _ _ _ _ _ _ us hl=>yZ hl fun _ _=>rfl),hm,cb F⟩
 have nd:=dk.nd
 exact cg (aZ aw hr (aa 0::ar::cJ rfl eE::ai) (ag (ag (ag ao))))\/!cg (aZ aw hr (aa 1::ar::cJ rfl eE::ai) (ag (ag (ag ao))))
theorem kf:aA ["n", "thing", "number"] ["n", "thing"] (ak (av 47)):=fsc ⟨rfl,rfl,rfl⟩ (by decide +kernel)
theorem jy (D:az K mg "beginning_good" (av 47)) (T:Blt mg) (aS:Has P w K mg base g "is_within" 2 ["thing", "least", "most"] bo):Has P w K mg base g "beginning_good" 3 ["n", "thing"] eB:=by
 refine Ei (BP (c6 D kf (bd2 fun _ _ _ _ _ _ _ _=>rfl) fun nd f cdv A outer s H E hr=>?_))
 exact @dW _ _ _ _ _ _ _ _ _ _ (PW.pt (@jS _ _ _ _ _ _ _ _ _ (@dg _ _ _ _ _ _ (@cz _ _ _ _ _ _ eg (kJ (aa 1) rfl T.isinstance rfl T.tuple NM) (fun _=>rfl))) (@hZ _ _ _ _ _ _ (aE bg bh rfl T.len Nn (aa 1::ai) > aa 0)))) (!-eM) bj\/gS Ob rfl (@dZ _ _ _ _ _ _ (aa 1)) (¬2) fA (!@dW _ _ _ _ _ _ _ _ _ _ (@dg _ _ _ _ _ _ (@cz _ _ _ _ _ _ eg (aZ aS hr (aa 2::ar::(aa 0 - ar)::ai) (ag (ag (ag ao)))) (fun _=>rfl))) (!-eM) bj)\/!-@sL _ _ _ _ _ _ _ _ _ _ _ (i3 hr.units) lZ (aE bg bh rfl T.len Nn (bW (j_ rfl) Ay rfl T.set QX (aa 1::ai)::ai)) (aE bg bh rfl T.len Nn (aa 1::ai)) (bX _)
theorem je:aA ["n", "thing"] ["n", "thing"] (ak (av 48)):=fsc ⟨rfl,rfl,rfl⟩ (by decide +kernel)
theorem iQ (D:az K mg "beginning_needed" (av 48)) (T:Blt mg) (dA:Has P w K mg base g "beginning_good" 3 ["n", "thing"] eB):Has P w K mg base g "beginning_needed" 4 ["n", "thing"] dz:=by
 refine c6 D je (bd2 fun _ _ _ _ _ _ _ _=>rfl) fun nd f cdv A outer s H E hr=>?_
 exact !@dW _ _ _ _ _ _ _ _ _ _ (@dg _ _ _ _ _ _ (@cz _ _ _ _ _ _ eg (aZ dA hr (aa 0::aa 1::ai) (ag (ag ao))) (fun _=>rfl))) (!(PS.imp fM fun E σ H ⟨α,env,h,s,w⟩=>w.elim)) bj
theorem pG:aA ["begun"] ["begun"] (ak (av 52)):=fsc ⟨rfl,rfl,rfl⟩ (by decide +kernel)
theorem nP (D:az K mg "lower_left" (av 52)) (T:Blt mg):Has P w K mg base g "lower_left" 1 ["begun"] hG:=by
 refine c6 D pG (bd1 fun _ _ _ _ _ _ _=>rfl) fun nd f cdv A outer s H E hr=>?_
 exact @dW _ _ _ _ _ _ _ _ _ _ (@bZ _ _ _ _ _ _ _ _ _ _ _ (i3 hr.units) lZ (aE bg bh rfl T.len Nn (aa 0::ai)) ar (bX _)) (!-ar) bj\/!-(aa 0 ^ @yr _ _ _ _ _ _ _ _ _ rC tj ar - aE bg bh rfl T.len Nn (cI (osc:=ak (av 52)) [0] ["number", "begun"] rfl rfl rfl rfl (by decide +kernel) ⟨by decide +kernel,by decide +kernel,rfl,by decide +kernel,rfl,by decide +kernel⟩ (@dZ _ _ _ _ _ _ (aa 0)) (fun cl C aD aK fp=>kU (aa 0<aa 1 ^ @yr _ _ _ _ _ _ _ _ _ rC tj ar)) (fun cl C aD aK fp=>aa 0)::ai))
theorem vA:aA ["numbers"] ["numbers"] (ak (av 14)):=fsc ⟨rfl,rfl,rfl⟩ (by decide +kernel)
theorem sW (D:az K mg "falls_in" (av 14)) (T:Blt mg):Has P w K mg base g "falls_in" 1 ["numbers"] bu:=by
 refine c6 D vA (bd1 fun _ _ _ _ _ _ _=>rfl) fun nd f cdv A outer s H E hr=>?_
 exact !-bW bU eP rfl T.tuple NM (cI (osc:=ak (av 14)) [0] ["place", "numbers"] rfl rfl rfl rfl (by decide +kernel) ⟨by decide +kernel,by decide +kernel,rfl,by decide +kernel,rfl,by decide +kernel⟩ (eG rfl T.range ((aE bg bh rfl T.len Nn (aa 0::ai) - ar)::ai)) (fun cl C aD aK fp=>kU (aa 1 ^ aa 0 > aa 1 ^ (aa 0++ar))) (fun cl C aD aK fp=>aa 0)::ai)
theorem oO:aA ["rests", "k", "begun", "counts", "falls"] ["rests", "k", "begun"] (ak (av 51)):=fsc ⟨rfl,rfl,rfl⟩ (by decide +kernel)
theorem mI (D:az K mg "begun_count" (av 51)) (T:Blt mg) (fV:Has P w K mg base g "lower_left" 1 ["begun"] hG) (ba:Has P w K mg base g "falls_in" 1 ["numbers"] bu):Has P w K mg base g "begun_count" 2 ["rests", "k", "begun"] ck:=by
 refine c6 D oO (bd3 fun _ _ _ _ _ _ _ _ _=>rfl) fun nd f cdv A outer s H E hr=>?_
 exact 3 >>= (aa 0 ^ (aE bg bh rfl T.len Nn (aa 0::ai) - ar - aE bg bh rfl T.len Nn (aa 2::ai))) ^ aZ fV hr (aa 2::ai) (ag ao)\/4 >>= aa 1 - aE bg bh rfl T.len Nn (aZ ba hr (aa 2::ai) (ag ao)::ai)\/!-@nO _ _ _ _ _ _ _ _ _ _ (ke jt E7 jv EH ar (aa 4) (aE bg bh rfl T.len Nn (aa 3::ai))) (aa 3 ^ aa 4) ar
theorem n8:aA ["fewer", "lower", "counts", "rank", "rest", "fall", "falls", "many"] ["fewer", "lower"] (ak (av 50)):=fsc ⟨rfl,rfl,rfl⟩ (by decide +kernel)
theorem mw (D:az K mg "rest_counts" (av 50)) (T:Blt mg):Has P w K mg base g "rest_counts" 1 ["fewer", "lower"] gF:=by
 refine Ei (BP (c6 D n8 (bd2 fun _ _ _ _ _ _ _ _=>rfl) fun nd f cdv A outer s H E hr=>?_))
 exact 2 >>= #[ar::ai]*(aE bg bh rfl T.len Nn (aa 0::ai)++ar)\/gS Ob rfl (mU rfl T.enumerate (aa 0)) (oq rfl (dn (¬3) (dn (¬4) km))) oz (5 >>= @nO _ _ _ _ _ _ _ _ _ _ (aa 3<aa 1) ar ar\/!gS Ob rfl (mU rfl T.enumerate (aa 4)) (oq rfl (dn (¬6) (dn (¬7) km))) oz (!DV (aa 2) (aa 6++aa 5) (aa 7)))\/!-aa 2
theorem lT:aA ["n", "rests", "left"] ["n"] (ak (av 49)):=fsc ⟨rfl,rfl,rfl⟩ (by decide +kernel)
theorem sG (D:az K mg "rests_of" (av 49)) (T:Blt mg) (eY:Has P w K mg base g "rest_counts" 1 ["fewer", "lower"] gF):Has P w K mg base g "rests_of" 2 ["n"] fS:=by
 obtain⟨f,fd,hm,F⟩:=D
 refine⟨f,fd,wH (mV (nE F lT (fun cdv A outer s H E hr=>?_))),F.kp,F.binds (fun _ _ _ _ _ _ us hl=>Af hl fun _=>rfl),hm,cb F⟩
 have nd:=lT.nd
 exact 1 >>= #[#[#[ar::ai]::ai]::ai]\/gS Ob rfl (yD rfl T.range (ar::(aa 0++ar)::ai)) (¬2) fA (!cg (wG PySem.F.slot_list_append PySem.F.type_list_append lu zJ (aa 1) (cI (osc:=ak (av 49)) [1] ["lower", "rests"] rfl rfl rfl rfl (by decide +kernel) ⟨by decide +kernel,by decide +kernel,rfl,by decide +kernel,rfl,by decide +kernel⟩ (eG rfl T.range ((aa 2++ar)::ai)) (fun cl C aD aK fp=>iU) (fun cl C aD aK fp=>aZ eY hr (aa 1 ^ @yr _ _ _ _ _ _ _ _ _ rC tj ar::aa 0::ai) (ag (ag ao)))::ai)))\/!-aa 1
theorem pP:aA ["n", "k", "begun"] ["n", "k", "begun"] (ak (av 43)):=fsc ⟨rfl,rfl,rfl⟩ (by decide +kernel)
theorem oB (D:az K mg "begun_many" (av 43)) (T:Blt mg) (aX:Has P w K mg base g "numbers_needed_listed" 4 ["n", "k"] bA) (cW:Has P w K mg base g "beginning_needed" 4 ["n", "thing"] dz) (bz:Has P w K mg base g "begun_count" 2 ["rests", "k", "begun"] ck) (c0:Has P w K mg base g "rests_of" 2 ["n"] fS):Has P w K mg base g "begun_many" 5 ["n", "k", "begun"] c5:=by
 refine c6 D pP (bd3 fun _ _ _ _ _ _ _ _ _=>rfl) fun nd f cdv A outer s H E hr=>?_
 exact cg (aZ aX hr (aa 0::aa 1::ai) (ag (ag ao)))\/cg (aZ cW hr (aa 0::aa 2::ai) (ag (ag ao)))\/!-aZ bz hr (aZ c0 hr (aa 0::ai) (ag ao)::aa 1::aa 2::ai) (ag (ag (ag ao)))
theorem cT:aA ["n", "k"] ["n", "k"] (ak (av 22)):=fsc ⟨rfl,rfl,rfl⟩ (by decide +kernel)
theorem fB (D:k8 K mg "numbers_needed_triangle" "numbers_needed" (av 22)) (T:Blt mg){gh:Tok} (cX:mg "MOST_ROWS" = some (.int 30 gh)) (aw:Has P w K mg base g "number_needed" 3 ["thing", "least", "most"] aF):Has P w K mg base g "numbers_needed_triangle" 4 ["n", "k"] bI:=by
 obtain⟨f,fd,hm,F⟩:=D
 refine⟨f,fd,nE F cT (fun cdv A outer s H E hr=>?_),F.kp,F.binds (fun _ _ _ _ _ _ us hl=>yZ hl fun _ _=>rfl),hm,cb F⟩
 have nd:=cT.nd
 exact cg (aZ aw hr (aa 0::ar::cJ rfl cX::ai) (ag (ag (ag ao))))\/!cg (aZ aw hr (aa 1::ar::cJ rfl cX::ai) (ag (ag (ag ao))))
theorem ph:aA ["row", "n", "edged"] ["row"] (ak (av 19)):=fsc ⟨rfl,rfl,rfl⟩ (by decide +kernel)
theorem oE (D:az K mg "longer_row" (av 19)) (T:Blt mg):Has P w K mg base g "longer_row" 1 ["row"] ic:=by
 refine c6 D ph (bd1 fun _ _ _ _ _ _ _=>rfl) fun nd f cdv A outer s H E hr=>?_
 exact 1 >>= aE bg bh rfl T.len Nn (aa 0::ai)++ar\/2 >>= #[ar::ai]++aa 0++#[ar::ai]\/!-cI (osc:=ak (av 19)) [2,1] ["k", "edged", "n"] rfl rfl rfl rfl (by decide +kernel) ⟨by decide +kernel,by decide +kernel,rfl,by decide +kernel,rfl,by decide +kernel⟩ (eG rfl T.range (aa 1::ai)) (fun cl C aD aK fp=>iU) (fun cl C aD aK fp=>(aa 0++ar)*aa 1 ^ (aa 0++ar)++(aa 2 - aa 0)*aa 1 ^ aa 0)
theorem zH:aA ["n", "row"] ["n"] (ak (av 20)):=fsc ⟨rfl,rfl,rfl⟩ (by decide +kernel)
theorem xj (D:az K mg "row_of" (av 20)) (T:Blt mg){gh:Tok} (cX:mg "MOST_ROWS" = some (.int 30 gh)) (aw:Has P w K mg base g "number_needed" 3 ["thing", "least", "most"] aF) (fR:Has P w K mg base g "longer_row" 1 ["row"] ic):Has P w K mg base g "row_of" 4 ["n"] a_:=by
 refine c6 D zH (bd1 fun _ _ _ _ _ _ _=>rfl) fun nd f cdv A outer s H E hr=>?_
 exact cg (aZ aw hr (aa 0::ar::cJ rfl cX::ai) (ag (ag (ag ao))))\/1 >>= #[ar::ai]\/@Ec _ _ _ _ _ _ _ _ 64 Ob (aE bg bh rfl T.len Nn (aa 1::ai)<aa 0) (!1 >>= aZ fR hr (aa 1::ai) (ag ao))\/!-aa 1
theorem vH:aA ["n", "k"] ["n", "k"] (ak (av 21)):=fsc ⟨rfl,rfl,rfl⟩ (by decide +kernel)
theorem sJ (D:az K mg "count_of" (av 21)) (T:Blt mg) (bS:Has P w K mg base g "numbers_needed_triangle" 4 ["n", "k"] bI) (jE:Has P w K mg base g "row_of" 4 ["n"] a_):Has P w K mg base g "count_of" 5 ["n", "k"] dw:=by
 refine c6 D vH (bd2 fun _ _ _ _ _ _ _ _=>rfl) fun nd f cdv A outer s H E hr=>?_
 exact cg (aZ bS hr (aa 0::aa 1::ai) (ag (ag ao)))\/!-aE (Ak rfl) Ij rfl T.sum PyProof.Rows.boot_sum (gP (aZ jE hr (aa 0::ai) (ag ao)) (@f6 _ _ _ _ _ (aa 1)) (@f6 _ _ _ _ _ (aa 1++ar))::ai)
theorem sM:aA ["n", "k"] ["n", "k"] (ak (av 37)):=fsc ⟨rfl,rfl,rfl⟩ (by decide +kernel)
theorem pS (D:az K mg "kept_many" (av 37)) (T:Blt mg) (c7:Has P w K mg base g "count_of" 5 ["n", "k"] dw):Has P w K mg base g "kept_many" 6 ["n", "k"] bM:=by
 refine c6 D sM (bd2 fun _ _ _ _ _ _ _ _=>rfl) fun nd f cdv A outer s H E hr=>?_
 exact !-((aa 1++ar)*aZ c7 hr ((aa 0 - ar)::aa 1::ai) (ag (ag ao)))
theorem qf:aA ["thing", "number"] ["thing"] (ak (av 12)):=fsc ⟨rfl,rfl,rfl⟩ (by decide +kernel)
theorem nR (D:az K mg "order_good" (av 12)) (T:Blt mg){bw:Tok} (aN:mg "MOST_NUMBERS" = some (.int 20 bw)) (aS:Has P w K mg base g "is_within" 2 ["thing", "least", "most"] bo):Has P w K mg base g "order_good" 3 ["thing"] dN:=by
 refine Ei (BP (c6 D qf (bd1 fun _ _ _ _ _ _ _=>rfl) fun nd f cdv A outer s H E hr=>?_))
 exact @dW _ _ _ _ _ _ _ _ _ _ (PW.pt (@jS _ _ _ _ _ _ _ _ _ (@dg _ _ _ _ _ _ (@cz _ _ _ _ _ _ eg (kJ (aa 0) rfl T.isinstance rfl T.tuple NM) (fun _=>rfl))) (@hZ _ _ _ _ _ _ (@dg _ _ _ _ _ _ (ke jt jt jv jv ar (aE bg bh rfl T.len Nn (aa 0::ai)) (cJ rfl aN)))))) (!-eM) bj\/gS Ob rfl (@dZ _ _ _ _ _ _ (aa 0)) (¬1) fA (!@dW _ _ _ _ _ _ _ _ _ _ (@dg _ _ _ _ _ _ (@cz _ _ _ _ _ _ eg (aZ aS hr (aa 1::ar::(aE bg bh rfl T.len Nn (aa 0::ai) - ar)::ai) (ag (ag (ag ao)))) (fun _=>rfl))) (!-eM) bj)\/!-@sL _ _ _ _ _ _ _ _ _ _ _ (i3 hr.units) lZ (aE bg bh rfl T.len Nn (bW (j_ rfl) Ay rfl T.set QX (aa 0::ai)::ai)) (aE bg bh rfl T.len Nn (aa 0::ai)) (bX _)
theorem mJ:aA ["thing"] ["thing"] (ak (av 13)):=fsc ⟨rfl,rfl,rfl⟩ (by decide +kernel)
theorem kO (D:az K mg "order_needed" (av 13)) (T:Blt mg) (fW:Has P w K mg base g "order_good" 3 ["thing"] dN):Has P w K mg base g "order_needed" 4 ["thing"] aR:=by
 refine c6 D mJ (bd1 fun _ _ _ _ _ _ _=>rfl) fun nd f cdv A outer s H E hr=>?_
 exact !@dW _ _ _ _ _ _ _ _ _ _ (@dg _ _ _ _ _ _ (@cz _ _ _ _ _ _ eg (aZ fW hr (aa 0::ai) (ag ao)) (fun _=>rfl))) (!(PS.imp fM fun E σ H ⟨α,env,h,s,w⟩=>w.elim)) bj
theorem zD:aA ["order", "spot"] ["order", "spot"] (ak (av 25)):=fsc ⟨rfl,rfl,rfl⟩ (by decide +kernel)
theorem xw (D:az K mg "put_in" (av 25)) (T:Blt mg){bw:Tok} (aN:mg "MOST_NUMBERS" = some (.int 20 bw)) (aC:Has P w K mg base g "order_needed" 4 ["thing"] aR) (aw:Has P w K mg base g "number_needed" 3 ["thing", "least", "most"] aF):Has P w K mg base g "put_in" 5 ["order", "spot"] cx:=by
 refine c6 D zD (bd2 fun _ _ _ _ _ _ _ _=>rfl) fun nd f cdv A outer s H E hr=>?_
 exact cg (aZ aC hr (aa 0::ai) (ag ao))\/cg (aZ aw hr (aa 1::ar::aE bg bh rfl T.len Nn (aa 0::ai)::ai) (ag (ag (ag ao))))\/@dW _ _ _ _ _ _ _ _ _ _ (@bZ _ _ _ _ _ _ _ _ _ _ _ (i3 hr.units) lZ (aE bg bh rfl T.len Nn (aa 0::ai)) (cJ rfl aN) (bX _)) (!(PS.imp fM fun E σ H ⟨α,env,h,s,w⟩=>w.elim)) bj\/!-(gP (aa 0) mT (@f6 _ _ _ _ _ (aa 1))++~~~(aE bg bh rfl T.len Nn (aa 0::ai)::ai)++gP (aa 0) (@f6 _ _ _ _ _ (aa 1)) mT)
theorem uX:aA ["order"] ["order"] (ak (av 15)):=fsc ⟨rfl,rfl,rfl⟩ (by decide +kernel)
theorem sQ (D:az K mg "falls_of" (av 15)) (T:Blt mg) (aC:Has P w K mg base g "order_needed" 4 ["thing"] aR) (ba:Has P w K mg base g "falls_in" 1 ["numbers"] bu):Has P w K mg base g "falls_of" 5 ["order"] dy:=by
 refine c6 D uX (bd1 fun _ _ _ _ _ _ _=>rfl) fun nd f cdv A outer s H E hr=>?_
 exact cg (aZ aC hr (aa 0::ai) (ag ao))\/!-aZ ba hr (aa 0::ai) (ag ao)
theorem nD:aA ["order"] ["order"] (ak (av 26)):=fsc ⟨rfl,rfl,rfl⟩ (by decide +kernel)
theorem mC (D:az K mg "still_spots" (av 26)) (T:Blt mg) (cY:Has P w K mg base g "falls_of" 5 ["order"] dy):Has P w K mg base g "still_spots" 6 ["order"] aP:=by
 refine c6 D nD (bd1 fun _ _ _ _ _ _ _=>rfl) fun nd f cdv A outer s H E hr=>?_
 exact !-(bW bU eP rfl T.tuple NM (cI (osc:=ak (av 26)) [] ["place"] rfl rfl rfl rfl (by decide +kernel) ⟨by decide +kernel,by decide +kernel,rfl,by decide +kernel,rfl,by decide +kernel⟩ (@dZ _ _ _ _ _ _ (aZ cY hr (aa 0::ai) (ag ao))) (fun cl C aD aK fp=>iU) (fun cl C aD aK fp=>aa 0++ar)::ai)++~~~(aE bg bh rfl T.len Nn (aa 0::ai)::ai))
theorem sC:aA ["order", "still"] ["order"] (ak (av 27)):=fsc ⟨rfl,rfl,rfl⟩ (by decide +kernel)
theorem pT (D:az K mg "new_spots" (av 27)) (T:Blt mg) (aI:Has P w K mg base g "still_spots" 6 ["order"] aP):Has P w K mg base g "new_spots" 7 ["order"] a9:=by
 refine c6 D sC (bd1 fun _ _ _ _ _ _ _=>rfl) fun nd f cdv A outer s H E hr=>?_
 exact 1 >>= aZ aI hr (aa 0::ai) (ag ao)\/!-bW bU eP rfl T.tuple NM (cI (osc:=ak (av 27)) [1] ["spot", "still"] rfl rfl rfl rfl (by decide +kernel) ⟨by decide +kernel,by decide +kernel,rfl,by decide +kernel,rfl,by decide +kernel⟩ (eG rfl T.range (aE bg bh rfl T.len Nn (aa 0::ai)::ai)) (fun cl C aD aK fp=>kU (@bZ _ _ _ _ _ _ _ _ _ _ _ h_ yc (aa 0) (aa 1) (by rfl))) (fun cl C aD aK fp=>aa 0)::ai)
theorem lQ:aA ["n", "k", "number", "kept", "order", "left"] ["n", "k", "number"] (ak (av 36)):=fsc ⟨rfl,rfl,rfl⟩ (by decide +kernel)
theorem qb (D:az K mg "drawn_by" (av 36)):Has P w K mg base g "drawn_by" (7+0) ["n", "k", "number"] (bP 0):=by
 obtain⟨f,fd,hm,F⟩:=D
 exact⟨f,fd,yh rfl,F.kp,F.binds (fun _ _ _ _ _ _ us hl=>DT hl fun _ _ _=>rfl),hm,cb F⟩
theorem o9 (D:az K mg "drawn_by" (av 36)) (T:Blt mg) (bE:Has P w K mg base g "kept_many" 6 ["n", "k"] bM) (cP:Has P w K mg base g "put_in" 5 ["order", "spot"] cx) (aI:Has P w K mg base g "still_spots" 6 ["order"] aP) (a8:Has P w K mg base g "new_spots" 7 ["order"] a9) (dd:Nat) (xv:Has P w K mg base g "drawn_by" (7+dd) ["n", "k", "number"] (bP dd)):Has P w K mg base g "drawn_by" (7+dd+1) ["n", "k", "number"] (bP (dd+1)):=by
 rw[rX]
 obtain⟨Gi,D9,oA,n_,nA,nN,_⟩:=xv
 obtain⟨f,fd,hm,F⟩:=D
 obtain⟨oZ,nM,gG,gq,gu,gB,_⟩:=bE
 obtain⟨F7,E2,oR,nI,nF,oD,_⟩:=cP
 obtain⟨mE,kY,eX,fj,eW,eS,_⟩:=aI
 obtain⟨pB,oX,gp,gr,gv,gk,_⟩:=a8
 refine⟨f,fd,nE F lQ (fun cdv A outer s H E hr=>?_),F.kp,F.binds (fun _ _ _ _ _ _ us hl=>DT hl fun _ _ _=>rfl),hm,cb F⟩
 have nd:=lQ.nd
 exact @dW _ _ _ _ _ _ _ _ _ _ (@bZ _ _ _ _ _ _ _ _ _ _ _ (i3 hr.units) lZ (aa 0) ar (bX _)) (!-~~~(ar::ai)) bj\/3 >>= cF (gG.mono (by omega)) hr rfl gB gq gu (aa 0::aa 1::ai) (ag (ag ao))\/@dW _ _ _ _ _ _ _ _ _ _ (aa 2<aa 3) (4 >>= cF (oA.mono (by omega)) hr rfl nN n_ nA ((aa 0 - ar)::aa 1::aa 2 / (aa 1++ar)::ai) (ag (ag (ag ao)))\/!-cF (oR.mono (by omega)) hr rfl oD nI nF (aa 4::cF (eX.mono (by omega)) hr rfl eS fj eW (aa 4::ai) (ag ao) ^ (aa 2 % (aa 1++ar))::ai) (ag (ag ao))) bj\/5 >>= aa 2 - aa 3\/4 >>= cF (oA.mono (by omega)) hr rfl nN n_ nA ((aa 0 - ar)::(aa 1 - ar)::aa 5 / (aa 0 - aa 1)::ai) (ag (ag (ag ao)))\/!-cF (oR.mono (by omega)) hr rfl oD nI nF (aa 4::cF (gp.mono (by omega)) hr rfl gk gr gv (aa 4::ai) (ag ao) ^ (aa 5 % (aa 0 - aa 1))::ai) (ag (ag ao))
theorem sE (D:az K mg "drawn_by" (av 36)) (T:Blt mg) (bE:Has P w K mg base g "kept_many" 6 ["n", "k"] bM) (cP:Has P w K mg base g "put_in" 5 ["order", "spot"] cx) (aI:Has P w K mg base g "still_spots" 6 ["order"] aP) (a8:Has P w K mg base g "new_spots" 7 ["order"] a9):Has P w K mg base g "drawn_by" 14 ["n", "k", "number"] (bP 7):=by
 have q:∀dd,Has P w K mg base g "drawn_by" (7+dd) ["n", "k", "number"] (bP dd):=fun dd=>by
  induction dd with
  | zero=>exact qb D
  | succ dd ih=>exact o9 D T bE cP aI a8 dd ih
 exact q 7
theorem AN:aA ["n", "k", "number"] ["n", "k", "number"] (ak (av 35)):=fsc ⟨rfl,rfl,rfl⟩ (by decide +kernel)
theorem zi (D:az K mg "drawn" (av 35)) (T:Blt mg){bw:Tok} (aN:mg "MOST_NUMBERS" = some (.int 20 bw)) (aw:Has P w K mg base g "number_needed" 3 ["thing", "least", "most"] aF) (c7:Has P w K mg base g "count_of" 5 ["n", "k"] dw) (g9:Has P w K mg base g "drawn_by" 14 ["n", "k", "number"] (bP 7)):Has P w K mg base g "drawn" 15 ["n", "k", "number"] f7:=by
 refine c6 D AN (bd3 fun _ _ _ _ _ _ _ _ _=>rfl) fun nd f cdv A outer s H E hr=>?_
 exact cg (aZ aw hr (aa 0::ar::cJ rfl aN::ai) (ag (ag (ag ao))))\/cg (aZ aw hr (aa 1::ar::cJ rfl aN::ai) (ag (ag (ag ao))))\/cg (aZ aw hr (aa 2::ar::(aZ c7 hr (aa 0::aa 1::ai) (ag (ag ao)) - ar)::ai) (ag (ag (ag ao))))\/!-aZ g9 hr (aa 0::aa 1::aa 2::ai) (ag (ag (ag ao)))
theorem eZ:aA ["order", "n", "k", "spot", "fewer", "still"] ["order"] (ak (av 38)):=fsc ⟨rfl,rfl,rfl⟩ (by decide +kernel)
theorem kc (D:az K mg "drawn_number" (av 38)):Has P w K mg base g "drawn_number" (7+0) ["order"] (aM 0):=by
 obtain⟨f,fd,hm,F⟩:=D
 exact⟨f,fd,yh rfl,F.kp,F.binds (fun _ _ _ _ _ _ us hl=>Af hl fun _=>rfl),hm,cb F⟩
theorem jR (D:az K mg "drawn_number" (av 38)) (T:Blt mg) (aC:Has P w K mg base g "order_needed" 4 ["thing"] aR) (ba:Has P w K mg base g "falls_in" 1 ["numbers"] bu) (aI:Has P w K mg base g "still_spots" 6 ["order"] aP) (bE:Has P w K mg base g "kept_many" 6 ["n", "k"] bM) (a8:Has P w K mg base g "new_spots" 7 ["order"] a9) (dd:Nat) (xv:Has P w K mg base g "drawn_number" (7+dd) ["order"] (aM dd)):Has P w K mg base g "drawn_number" (7+dd+1) ["order"] (aM (dd+1)):=by
 rw[eh]
 obtain⟨Gi,D9,oA,n_,nA,nN,_⟩:=xv
 obtain⟨f,fd,hm,F⟩:=D
 obtain⟨zA,xV,lA,k7,k4,lj,_⟩:=aC
 obtain⟨Dh,Cu,rW,rH,rE,tE,_⟩:=ba
 obtain⟨mE,kY,eX,fj,eW,eS,_⟩:=aI
 obtain⟨oZ,nM,gG,gq,gu,gB,_⟩:=bE
 obtain⟨pB,oX,gp,gr,gv,gk,_⟩:=a8
 refine⟨f,fd,nE F eZ (fun cdv A outer s H E hr=>?_),F.kp,F.binds (fun _ _ _ _ _ _ us hl=>Af hl fun _=>rfl),hm,cb F⟩
 have nd:=eZ.nd
 exact cg (cF (lA.mono (by omega)) hr rfl lj k7 k4 (aa 0::ai) (ag ao))\/B3 (i:=1) (j:=2) rfl eZ.nd rfl rfl (by decide) (aE bg bh rfl T.len Nn (aa 0::ai)::aE bg bh rfl T.len Nn (cF (rW.mono (by omega)) hr rfl tE rH rE (aa 0::ai) (ag ao)::ai)::ai)\/@dW _ _ _ _ _ _ _ _ _ _ (@bZ _ _ _ _ _ _ _ _ _ _ _ (i3 hr.units) lZ (aa 1) ar (bX _)) (!-ar) bj\/3 >>= rq PB PC ja i9 (aa 0) ((aa 1 - ar)::ai)\/4 >>= gP (aa 0) mT (@f6 _ _ _ _ _ (aa 3))++gP (aa 0) (@f6 _ _ _ _ _ (aa 3++ar)) mT\/5 >>= cF (eX.mono (by omega)) hr rfl eS fj eW (aa 4::ai) (ag ao)\/@dW _ _ _ _ _ _ _ _ _ _ (@bZ _ _ _ _ _ _ _ _ _ _ _ Aj yc (aa 3) (aa 5) (by rfl)) (!-(cF (oA.mono (by omega)) hr rfl nN n_ nA (aa 4::ai) (ag ao)*(aa 2++ar)++rq PB PC ja i9 (aa 5) (aa 3::ai))) bj\/!-(cF (gG.mono (by omega)) hr rfl gB gq gu (aa 1::aa 2::ai) (ag (ag ao))++cF (oA.mono (by omega)) hr rfl nN n_ nA (aa 4::ai) (ag ao)*(aa 1 - aa 2)++rq PB PC ja i9 (cF (gp.mono (by omega)) hr rfl gk gr gv (aa 4::ai) (ag ao)) (aa 3::ai))
theorem kZ (D:az K mg "drawn_number" (av 38)) (T:Blt mg) (aC:Has P w K mg base g "order_needed" 4 ["thing"] aR) (ba:Has P w K mg base g "falls_in" 1 ["numbers"] bu) (aI:Has P w K mg base g "still_spots" 6 ["order"] aP) (bE:Has P w K mg base g "kept_many" 6 ["n", "k"] bM) (a8:Has P w K mg base g "new_spots" 7 ["order"] a9):Has P w K mg base g "drawn_number" 14 ["order"] (aM 7):=by
 have q:∀dd,Has P w K mg base g "drawn_number" (7+dd) ["order"] (aM dd):=fun dd=>by
  induction dd with
  | zero=>exact kc D
  | succ dd ih=>exact jR D T aC ba aI bE a8 dd ih
 exact q 7
theorem jo:aA ["n", "k", "rests"] ["n", "k"] (ak (av 53)):=fsc ⟨rfl,rfl,rfl⟩ (by decide +kernel)
theorem og (D:az K mg "counter_of" (av 53)) (T:Blt mg) (MK:CM K mg base "counter_of" (av 53)) (c0:Has P w K mg base g "rests_of" 2 ["n"] fS):Has P w K mg base g "counter_of" 3 ["n", "k"] dS:=by
 obtain⟨f,fd,hm,F⟩:=D
 obtain⟨c,PT,MK⟩:=MK f fd hm F
 refine⟨f,fd,Fx ((b8 (av 53)).take 1) "begun_count" "begun" ["rests", "k"] [2,1] F jo MK rfl (fun _=>rfl) (by decide +kernel) (by decide +kernel) rfl ⟨⟨_,_,_,[("rests", _),("k", _)],rfl,rfl⟩,rfl,rfl,rfl,by decide +kernel,rfl,rfl,by decide +kernel,⟨by decide,by decide⟩,fun _ _ _ _ _=>rfl⟩ (fun cdv A outer s H E hr=>?_),F.kp,F.binds (fun _ _ _ _ _ _ us hl=>yZ hl fun _ _=>rfl),hm,cb F⟩
 have nd:=jo.nd
 exact !2 >>= aZ c0 hr (aa 0::ai) (ag ao)
theorem nW:aA ["many"] ["many"] (ak (av 46)):=fsc ⟨rfl,rfl,rfl⟩ (by decide +kernel)
theorem mN (D:az K mg "told_needed" (av 46)) (T:Blt mg){lU:Tok} (iR:mg "MOST_TOLD" = some (.int 300 lU)):Has P w K mg base g "told_needed" 1 ["many"] gA:=by
 refine c6 D nW (bd1 fun _ _ _ _ _ _ _=>rfl) fun nd f cdv A outer s H E hr=>?_
 exact !@dW _ _ _ _ _ _ _ _ _ _ (aa 0 > cJ rfl iR) (!(PS.imp fM fun E σ H ⟨α,env,h,s,w⟩=>w.elim)) bj
theorem fN:aA ["n", "begun", "many_with", "longer"] ["n", "begun", "many_with"] (ak (av 54)):=fsc ⟨rfl,rfl,rfl⟩ (by decide +kernel)
theorem mO (D:az K mg "longer_ones" (av 54)) (T:Blt mg) (bz:Has P w K mg base g "begun_count" 2 ["rests", "k", "begun"] ck):Has P w K mg base g "longer_ones" 4 ["n", "begun", "many_with"] gj:=by
 obtain⟨f,fd,hm,F⟩:=D
 obtain⟨mH,kN,eT,e_,e9,eQ,_⟩:=bz
 have TC:∀x np m,wI x=some (np,m)->∃f fd ps,mg x=some (.ref f)/\dJ P w K mg base CX0 2 f fd ps (spM K g np m)/\Oy K (.ref f)=true/\Binds K fd ps []:=by
  intro x np m e
  unfold wI at e
  by_cases bQ:x="begun_count"
  ·rw[if_pos bQ] at e;cases e;rw[bQ];exact⟨_,_,_,eQ,eT.mono (by decide),e_,e9⟩
  rw[if_neg bQ] at e
  cases e
 refine⟨f,fd,nE F fN (fun cdv A outer s H E hr=>?_),F.kp,F.binds (fun _ _ _ _ _ _ us hl=>DT hl fun _ _ _=>rfl),hm,cb F⟩
 have nd:=fN.nd
 exact nS (osc:=ak (av 54)) [1] ["number", "begun"] rfl rfl rfl rfl (by decide +kernel) ⟨by decide +kernel,by decide +kernel,rfl,by decide +kernel,rfl,by decide +kernel⟩ (eG rfl T.range (aa 0::ai)) (fun cl C aD aK fp=>kU (@bZ _ _ _ _ _ _ _ _ _ _ _ h_ yc (aa 0) (aa 1) (by rfl))) (fun cl C aD aK fp=>aa 1++~~~(aa 0::ai)) (i:=3) fN.nd rfl\/!-cI (osc:=ak (av 54)) [2] ["one", "many_with"] rfl rfl rfl rfl (by decide +kernel) ⟨by decide +kernel,by decide +kernel,rfl,by decide +kernel,rfl,by decide +kernel⟩ (@dZ _ _ _ _ _ _ (aa 3)) (fun cl C aD aK fp=>kU (vW TC hr (aa 1) (aa 0::ai) (ag ao) > ar)) (fun cl C aD aK fp=>aa 0)
theorem gJ:aA ["n", "many_with", "orders", "place"] ["n", "many_with"] (ak (av 55)):=fsc ⟨rfl,rfl,rfl⟩ (by decide +kernel)
theorem kg (D:az K mg "orders_listed" (av 55)) (T:Blt mg) (fh:Has P w K mg base g "longer_ones" 4 ["n", "begun", "many_with"] gj):Has P w K mg base g "orders_listed" 5 ["n", "many_with"] eU:=by
 refine Ei (BP (c6 D gJ (bd2 fun _ _ _ _ _ _ _ _=>rfl) fun nd f cdv A outer s H E hr=>?_))
 exact 2 >>= #[~~~ai::ai]\/gS Ob rfl (eG rfl T.range (aa 0::ai)) (¬3) fA (!wL (osc:=ak (av 55)) [0,1] ["begun", "longer", "n", "many_with"] rfl rfl rfl rfl (by decide +kernel) ⟨by decide +kernel,by decide +kernel,rfl,by decide +kernel,by decide +kernel⟩ (@dZ _ _ _ _ _ _ (aa 2)) (fun cl C aD aK fp=>⟨SW rfl,rfl⟩) (fun cl C aD aK fp=>⟨SW rfl,rfl⟩) (fun cl C aD aK fp=>@dZ _ _ _ _ _ _ (aZ fh hr (aa 2::aa 0::aa 3::ai) (ag (ag (ag ao))))) (fun cl C aD aK fp=>aa 1) (i:=2) gJ.nd rfl)\/!-aa 2
theorem jr:aA ["n", "k", "many_with"] ["n", "k"] (ak (av 42)):=fsc ⟨rfl,rfl,rfl⟩ (by decide +kernel)
theorem nZ (D:az K mg "orders_all" (av 42)) (T:Blt mg) (aX:Has P w K mg base g "numbers_needed_listed" 4 ["n", "k"] bA) (fQ:Has P w K mg base g "counter_of" 3 ["n", "k"] dS) (eV:Has P w K mg base g "told_needed" 1 ["many"] gA) (bz:Has P w K mg base g "begun_count" 2 ["rests", "k", "begun"] ck) (dP:Has P w K mg base g "orders_listed" 5 ["n", "many_with"] eU):Has P w K mg base g "orders_all" 6 ["n", "k"] c_:=by
 obtain⟨f,fd,hm,F⟩:=D
 obtain⟨mH,kN,eT,e_,e9,eQ,_⟩:=bz
 have TC:∀x np m,wI x=some (np,m)->∃f fd ps,mg x=some (.ref f)/\dJ P w K mg base CX0 4 f fd ps (spM K g np m)/\Oy K (.ref f)=true/\Binds K fd ps []:=by
  intro x np m e
  unfold wI at e
  by_cases bQ:x="begun_count"
  ·rw[if_pos bQ] at e;cases e;rw[bQ];exact⟨_,_,_,eQ,eT.mono (by decide),e_,e9⟩
  rw[if_neg bQ] at e
  cases e
 refine⟨f,fd,nE F jr (fun cdv A outer s H E hr=>?_),F.kp,F.binds (fun _ _ _ _ _ _ us hl=>yZ hl fun _ _=>rfl),hm,cb F⟩
 have nd:=jr.nd
 exact cg (aZ aX hr (aa 0::aa 1::ai) (ag (ag ao)))\/2 >>= aZ fQ hr (aa 0::aa 1::ai) (ag (ag ao))\/cg (aZ eV hr (vW TC hr (aa 2) (~~~ai::ai) (ag ao)::ai) (ag ao))\/!-aZ dP hr (aa 0::aa 2::ai) (ag (ag ao))
theorem nV:aA ["order", "most"] ["order", "most"] (ak (av 30)):=fsc ⟨rfl,rfl,rfl⟩ (by decide +kernel)
theorem l_ (D:az K mg "upto_number" (av 30)) (T:Blt mg):Has P w K mg base g "upto_number" 1 ["order", "most"] bD:=by
 refine c6 D nV (bd2 fun _ _ _ _ _ _ _ _=>rfl) fun nd f cdv A outer s H E hr=>?_
 exact !-bW bU eP rfl T.tuple NM (cI (osc:=ak (av 30)) [1] ["number", "most"] rfl rfl rfl rfl (by decide +kernel) ⟨by decide +kernel,by decide +kernel,rfl,by decide +kernel,rfl,by decide +kernel⟩ (@dZ _ _ _ _ _ _ (aa 0)) (fun cl C aD aK fp=>kU (aa 0<=aa 1)) (fun cl C aD aK fp=>aa 0)::ai)
theorem wb:aA ["order"] ["order"] (ak (av 33)):=fsc ⟨rfl,rfl,rfl⟩ (by decide +kernel)
theorem t5 (D:az K mg "path_of" (av 33)) (T:Blt mg) (aC:Has P w K mg base g "order_needed" 4 ["thing"] aR) (ba:Has P w K mg base g "falls_in" 1 ["numbers"] bu) (b_:Has P w K mg base g "upto_number" 1 ["order", "most"] bD):Has P w K mg base g "path_of" 5 ["order"] bO:=by
 refine c6 D wb (bd1 fun _ _ _ _ _ _ _=>rfl) fun nd f cdv A outer s H E hr=>?_
 exact cg (aZ aC hr (aa 0::ai) (ag ao))\/!-bW bU eP rfl T.tuple NM (cI (osc:=ak (av 33)) [0] ["number", "order"] rfl rfl rfl rfl (by decide +kernel) ⟨by decide +kernel,by decide +kernel,rfl,by decide +kernel,rfl,by decide +kernel⟩ (eG rfl T.range (aE bg bh rfl T.len Nn (aa 0::ai)::ai)) (fun cl C aD aK fp=>iU) (fun cl C aD aK fp=>aE bg bh rfl T.len Nn (aZ ba hr (aZ b_ hr (aa 1::aa 0::ai) (ag (ag ao))::ai) (ag ao)::ai))::ai)
theorem gX:aA ["thing", "least", "most", "number"] ["thing"] (ak (av 32)):=fsc ⟨rfl,rfl,rfl⟩ (by decide +kernel)
theorem pk (D:az K mg "path_good" (av 32)) (T:Blt mg){bw:Tok} (aN:mg "MOST_NUMBERS" = some (.int 20 bw)) (aS:Has P w K mg base g "is_within" 2 ["thing", "least", "most"] bo):Has P w K mg base g "path_good" 3 ["thing"] i5:=by
 refine c6 D gX (bd1 fun _ _ _ _ _ _ _=>rfl) fun nd f cdv A outer s H E hr=>?_
 exact @dW _ _ _ _ _ _ _ _ _ _ (PW.pt (@jS _ _ _ _ _ _ _ _ _ (@dg _ _ _ _ _ _ (@cz _ _ _ _ _ _ eg (kJ (aa 0) rfl T.isinstance rfl T.tuple NM) (fun _=>rfl))) (@hZ _ _ _ _ _ _ (@dg _ _ _ _ _ _ (ke jt jt jv jv ar (aE bg bh rfl T.len Nn (aa 0::ai)) (cJ rfl aN)))))) (!-eM) bj\/Kh (i:=1) (j:=2) rfl gX.nd rfl rfl (~~~(ar::ar::ai))\/gS Ob rfl (@dZ _ _ _ _ _ _ (aa 0)) (¬3) fA (@dW _ _ _ _ _ _ _ _ _ _ (@dg _ _ _ _ _ _ (@cz _ _ _ _ _ _ eg (aZ aS hr (aa 3::aa 1::aa 2::ai) (ag (ag (ag ao)))) (fun _=>rfl))) (!-eM) bj\/!B3 (i:=1) (j:=2) rfl gX.nd rfl rfl (by decide) (aa 3::(aa 3++ar)::ai))\/!-eM
theorem ky:aA ["path", "many", "size", "falls"] ["path"] (ak (av 34)):=fsc ⟨rfl,rfl,rfl⟩ (by decide +kernel)
theorem pE (D:az K mg "path_many" (av 34)) (T:Blt mg) (gw:Has P w K mg base g "path_good" 3 ["thing"] i5):Has P w K mg base g "path_many" 4 ["path"] dH:=by
 refine c6 D ky (bd1 fun _ _ _ _ _ _ _=>rfl) fun nd f cdv A outer s H E hr=>?_
 exact @dW _ _ _ _ _ _ _ _ _ _ (@dg _ _ _ _ _ _ (@cz _ _ _ _ _ _ eg (aZ gw hr (aa 0::ai) (ag ao)) (fun _=>rfl))) (!(PS.imp fM fun E σ H ⟨α,env,h,s,w⟩=>w.elim)) bj\/1 >>= ar\/gS Ob rfl (yD rfl T.range (ar::aE bg bh rfl T.len Nn (aa 0::ai)::ai)) (¬2) fA (3 >>= aa 0 ^ (aa 2 - ar)\/!JZ (i:=1) ky.nd rfl (by first | exact SW rfl | exact Te rfl) (@nO _ _ _ _ _ _ _ _ _ _ (@bZ _ _ _ _ _ _ _ _ _ _ _ (i3 hr.units) lZ (aa 0 ^ aa 2) (aa 3) (bX _)) (aa 3++ar) (aa 2 - aa 3)) DN GW)\/!-aa 1
theorem js:aA ["_law_pen", "_law_n", "_law_left"] ["_law_pen", "_law_n"] (ak (av 61)):=fsc ⟨rfl,rfl,rfl⟩ (by decide +kernel)
theorem m_ (D:az K mg "_law_order" (av 61)) (T:Blt mg) (bL:Has P w K mg base g "_law_draw" 2 ["_law_pen", "_law_many"] aH):Has P w K mg base g "_law_order" 3 ["_law_pen", "_law_n"] cG:=by
 obtain⟨f,fd,hm,F⟩:=D
 refine⟨f,fd,mV (nE F js (fun cdv A outer s H E hr=>?_)),F.kp,F.binds (fun _ _ _ _ _ _ us hl=>yZ hl fun _ _=>rfl),hm,cb F⟩
 have nd:=js.nd
 exact 2 >>= oN rfl rfl T.list rfl T.range (aa 1::ai)\/!-bW bU eP rfl T.tuple NM (cI (osc:=ak (av 61)) [2,0] ["_law_place", "_law_left", "_law_pen"] rfl rfl rfl rfl (by decide +kernel) ⟨by decide +kernel,by decide +kernel,rfl,by decide +kernel,rfl,by decide +kernel⟩ (eG rfl T.range (aa 1::ai)) (fun cl C aD aK fp=>iU) (fun cl C aD aK fp=>wG PySem.F.slot_list_pop PySem.F.type_list_pop BA Ih (aa 1) (aZ bL hr (aa 2::aE bg bh rfl T.len Nn (aa 1::ai)::ai) (ag (ag ao))::ai))::ai)
theorem pM:aA ["order"] ["order"] (ak (av 16)):=fsc ⟨rfl,rfl,rfl⟩ (by decide +kernel)
theorem oy (D:az K mg "falls_many" (av 16)) (T:Blt mg) (cY:Has P w K mg base g "falls_of" 5 ["order"] dy):Has P w K mg base g "falls_many" 6 ["order"] bq:=by
 refine c6 D pM (bd1 fun _ _ _ _ _ _ _=>rfl) fun nd f cdv A outer s H E hr=>?_
 exact !-aE bg bh rfl T.len Nn (aZ cY hr (aa 0::ai) (ag ao)::ai)
theorem ny:aA ["order"] ["order"] (ak (av 29)):=fsc ⟨rfl,rfl,rfl⟩ (by decide +kernel)
theorem u9 (D:az K mg "code_of" (av 29)) (T:Blt mg) (aC:Has P w K mg base g "order_needed" 4 ["thing"] aR) (b_:Has P w K mg base g "upto_number" 1 ["order", "most"] bD):Has P w K mg base g "code_of" 5 ["order"] bV:=by
 obtain⟨f,fd,hm,F⟩:=D
 refine⟨f,fd,nE F ny (fun cdv A outer s H E hr=>?_),F.kp,F.binds (fun _ _ _ _ _ _ us hl=>Af hl fun _=>rfl),hm,cb F⟩
 have nd:=ny.nd
 exact cg (aZ aC hr (aa 0::ai) (ag ao))\/!-bW bU eP rfl T.tuple NM (cI (osc:=ak (av 29)) [0] ["number", "order"] rfl rfl rfl rfl (by decide +kernel) ⟨by decide +kernel,by decide +kernel,rfl,by decide +kernel,rfl,by decide +kernel⟩ (eG rfl T.range (aE bg bh rfl T.len Nn (aa 0::ai)::ai)) (fun cl C aD aK fp=>iU) (fun cl C aD aK fp=>rq PB PC ja i9 (aZ b_ hr (aa 1::aa 0::ai) (ag (ag ao))) (aa 0::ai))::ai)
theorem sy:aA ["thing", "place", "number"] ["thing"] (ak (av 28)):=fsc ⟨rfl,rfl,rfl⟩ (by decide +kernel)
theorem pV (D:az K mg "code_good" (av 28)) (T:Blt mg){bw:Tok} (aN:mg "MOST_NUMBERS" = some (.int 20 bw)) (aS:Has P w K mg base g "is_within" 2 ["thing", "least", "most"] bo):Has P w K mg base g "code_good" 3 ["thing"] dE:=by
 refine c6 D sy (bd1 fun _ _ _ _ _ _ _=>rfl) fun nd f cdv A outer s H E hr=>?_
 exact @dW _ _ _ _ _ _ _ _ _ _ (PW.pt (@jS _ _ _ _ _ _ _ _ _ (@dg _ _ _ _ _ _ (@cz _ _ _ _ _ _ eg (kJ (aa 0) rfl T.isinstance rfl T.tuple NM) (fun _=>rfl))) (@hZ _ _ _ _ _ _ (@dg _ _ _ _ _ _ (ke jt jt jv jv ar (aE bg bh rfl T.len Nn (aa 0::ai)) (cJ rfl aN)))))) (!-eM) bj\/gS Ob rfl (mU rfl T.enumerate (aa 0)) (oq rfl (dn (¬1) (dn (¬2) km))) oz (!@dW _ _ _ _ _ _ _ _ _ _ (@dg _ _ _ _ _ _ (@cz _ _ _ _ _ _ eg (aZ aS hr (aa 2::ar::aa 1::ai) (ag (ag (ag ao)))) (fun _=>rfl))) (!-eM) bj)\/!-eM
theorem lL:aA ["code", "numbers", "number", "place"] ["code"] (ak (av 31)):=fsc ⟨rfl,rfl,rfl⟩ (by decide +kernel)
theorem rm (D:az K mg "order_by" (av 31)) (T:Blt mg) (gD:Has P w K mg base g "code_good" 3 ["thing"] dE):Has P w K mg base g "order_by" 4 ["code"] dC:=by
 obtain⟨f,fd,hm,F⟩:=D
 refine⟨f,fd,wH (mV (nE F lL (fun cdv A outer s H E hr=>?_))),F.kp,F.binds (fun _ _ _ _ _ _ us hl=>Af hl fun _=>rfl),hm,cb F⟩
 have nd:=lL.nd
 exact @dW _ _ _ _ _ _ _ _ _ _ (@dg _ _ _ _ _ _ (@cz _ _ _ _ _ _ eg (aZ gD hr (aa 0::ai) (ag ao)) (fun _=>rfl))) (!(PS.imp fM fun E σ H ⟨α,env,h,s,w⟩=>w.elim)) bj\/1 >>= #[ai]\/gS Ob rfl (mU rfl T.enumerate (aa 0)) (oq rfl (dn (¬2) (dn (¬3) km))) oz (!cg (wG PySem.F.slot_list_insert PySem.F.type_list_insert zq zM (aa 1) (aa 3::aa 2::ai)))\/!-bW bU eP rfl T.tuple NM (aa 1::ai)
theorem AJ:aA ["_law_script", "_law_cell", "_law_pen", "_law_n", "_law_k", "_law_many", "_law_some", "_law_counts", "_law_one", "_law_path", "_law_order_here", "_law_still", "_law_spot", "_law_later", "_law_more"] ["_law_script"] (ak (av 62)):=fsc ⟨rfl,rfl,rfl⟩ (by decide +kernel)
theorem CG (D:az K mg "law" (av 62)) (T:Blt mg) (d_:Has P w K mg base g "_law_cell_at" 1 ["_law_script", "_law_k"] bY) (eR:Has P w K mg base g "_law_pen_of" 1 ["_law_cell"] cj) (bL:Has P w K mg base g "_law_draw" 2 ["_law_pen", "_law_many"] aH) (fL:Has P w K mg base g "begun_many" 5 ["n", "k", "begun"] c5) (kR:Has P w K mg base g "drawn" 15 ["n", "k", "number"] f7) (dY:Has P w K mg base g "drawn_number" 14 ["order"] (aM 7)) (fG:Has P w K mg base g "orders_all" 6 ["n", "k"] c_) (dG:Has P w K mg base g "path_of" 5 ["order"] bO) (gE:Has P w K mg base g "path_many" 4 ["path"] dH) (fK:Has P w K mg base g "_law_order" 3 ["_law_pen", "_law_n"] cG) (aI:Has P w K mg base g "still_spots" 6 ["order"] aP) (cV:Has P w K mg base g "falls_many" 6 ["order"] bq) (a8:Has P w K mg base g "new_spots" 7 ["order"] a9) (cP:Has P w K mg base g "put_in" 5 ["order", "spot"] cx) (eI:Has P w K mg base g "code_of" 5 ["order"] bV) (ij:Has P w K mg base g "order_by" 4 ["code"] dC):Has P w K mg base g "law" 16 ["_law_script"] nJ:=by
 refine BP (c6 D AJ (bd1 fun _ _ _ _ _ _ _=>rfl) fun nd f cdv A outer s H E hr=>?_)
 exact gS Ob rfl (@dZ _ _ _ _ _ _ (#[aZ d_ hr (aa 0::ar::ai) (ag (ag ao))::ai]++gP (aa 0) (@f6 _ _ _ _ _ ar) (@f6 _ _ _ _ _ ar))) (¬1) fA (2 >>= aZ eR hr (aa 1::ai) (ag ao)\/3 >>= ar++aZ bL hr (aa 2::ar::ai) (ag (ag ao))\/4 >>= aZ bL hr (aa 2::aa 3::ai) (ag (ag ao))\/5 >>= aZ fL hr (aa 3::aa 4::~~~ai::ai) (ag (ag (ag ao)))\/nS (osc:=ak (av 62)) [3,4] ["_law_number", "_law_n", "_law_k"] rfl rfl rfl rfl (by decide +kernel) ⟨by decide +kernel,by decide +kernel,rfl,by decide +kernel,rfl,by decide +kernel⟩ (eG rfl T.range (aa 5::ai)) (fun cl C aD aK fp=>iU) (fun cl C aD aK fp=>aZ kR hr (aa 1::aa 2::aa 0::ai) (ag (ag (ag ao)))) (i:=6) AJ.nd rfl\/@dW _ _ _ _ _ _ _ _ _ _ (@bZ _ _ _ _ _ _ _ _ _ _ _ (fJ hr.units) iL (cI (osc:=ak (av 62)) [] ["_law_one"] rfl rfl rfl rfl (by decide +kernel) ⟨by decide +kernel,by decide +kernel,rfl,by decide +kernel,rfl,by decide +kernel⟩ (@dZ _ _ _ _ _ _ (aa 6)) (fun cl C aD aK fp=>iU) (fun cl C aD aK fp=>aZ dY hr (aa 0::ai) (ag ao))) (oN rfl rfl T.list rfl T.range (aa 5::ai)) (bX _)) (!-eM) bj\/@dW _ _ _ _ _ _ _ _ _ _ (PW.pt (@jS _ _ _ _ _ _ _ _ _ (PW.pt (@A4 _ _ _ _ _ _ _ _ _ (aa 5<ar) (@xU _ _ _ _ _ _ (@bZ _ _ _ _ _ _ _ _ _ _ _ (fJ hr.units) iL (aE (bB.or (bB.frz wZ) (bB.frz wV)) Ba rfl T.sorted PyProof.Rows.boot_sorted (aa 6::ai)) (aZ fG hr (aa 3::aa 4::ai) (ag (ag ao))) (bX _))))) (@hZ _ _ _ _ _ _ (@bZ _ _ _ _ _ _ _ _ _ _ _ (fJ hr.units) iL (BI (wd) (zm rfl hr.units) D3 rfl T.len Nn rfl T.set QX (aa 6::ai)) (aa 5) (bX _))))) (!-eM) bj\/7 >>= Dr\/gS Ob rfl (@dZ _ _ _ _ _ _ (aa 6)) (¬8) fA (!Hv (un1 hr.units) (BR (un1 hr.units) (aa 7) (aZ dG hr (aa 8::ai) (ag ao)) ar ⟨rfl,rfl,rfl,rfl⟩++ar) (aa 7) (aZ dG hr (aa 8::ai) (ag ao)))\/gS Ob rfl (@dZ _ _ _ _ _ _ (bW (bB.frz (qh rfl)) Be rfl T.list PyProof.Rows.boot_list (aa 7::ai))) (¬9) fA (!@dW _ _ _ _ _ _ _ _ _ _ (PW.pt (@jS _ _ _ _ _ _ _ _ _ (@bZ _ _ _ _ _ _ _ _ _ _ _ (fJ hr.units) iL (aZ gE hr (aa 9::ai) (ag ao)) (D0 (un1 hr.units) (aa 7) (aa 9) (fun _ _=>rfl)) (bX _)) (@hZ _ _ _ _ _ _ (@bZ _ _ _ _ _ _ _ _ _ _ _ (fJ hr.units) iL (aa 9 ^ @yr _ _ _ _ _ _ _ _ _ rC tj ar) (aa 4) (bX _))))) (!-eM) bj)\/10 >>= aZ fK hr (aa 2::(ar++aZ bL hr (aa 2::ar::ai) (ag (ag ao)))::ai) (ag (ag ao))\/11 >>= aZ aI hr (aa 10::ai) (ag ao)\/@dW _ _ _ _ _ _ _ _ _ _ (PW.pt (@jS _ _ _ _ _ _ _ _ _ (@bZ _ _ _ _ _ _ _ _ _ _ _ (fJ hr.units) iL (aE bg bh rfl T.len Nn (aa 11::ai)) (aZ cV hr (aa 10::ai) (ag ao)++ar) (bX _)) (@hZ _ _ _ _ _ _ (@bZ _ _ _ _ _ _ _ _ _ _ _ (fJ hr.units) iL (aE (bB.frz zy) D_ rfl T.sorted PyProof.Rows.boot_sorted ((aa 11++aZ a8 hr (aa 10::ai) (ag ao))::ai)) (oN rfl rfl T.list rfl T.range ((aE bg bh rfl T.len Nn (aa 10::ai)++ar)::ai)) (bX _))))) (!-eM) bj\/12 >>= aZ bL hr (aa 2::(aE bg bh rfl T.len Nn (aa 10::ai)++ar)::ai) (ag (ag ao))\/13 >>= aZ cP hr (aa 10::aa 12::ai) (ag (ag ao))\/14 >>= aZ cV hr (aa 10::ai) (ag ao)++bW qT A6 rfl T.int QW (@sL _ _ _ _ _ _ _ _ _ _ _ h_ yc (aa 12) (aa 11) (by rfl)::ai)\/@dW _ _ _ _ _ _ _ _ _ _ (PW.pt (@jS _ _ _ _ _ _ _ _ _ (@bZ _ _ _ _ _ _ _ _ _ _ _ (fJ hr.units) iL (aZ cV hr (aa 13::ai) (ag ao)) (aa 14) (bX _)) (@hZ _ _ _ _ _ _ (@bZ _ _ _ _ _ _ _ _ _ _ _ (fJ hr.units) iL (aZ dG hr (aa 13::ai) (ag ao)) (aZ dG hr (aa 10::ai) (ag ao)++~~~(aa 14::ai)) (bX _))))) (!-eM) bj\/!@dW _ _ _ _ _ _ _ _ _ _ (PW.pt (@jS _ _ _ _ _ _ _ _ _ (@bZ _ _ _ _ _ _ _ _ _ _ _ (fJ hr.units) iL (aZ eI hr (aa 13::ai) (ag ao)) (aZ eI hr (aa 10::ai) (ag ao)++~~~(aa 12::ai)) (bX _)) (@hZ _ _ _ _ _ _ (@bZ _ _ _ _ _ _ _ _ _ _ _ (fJ hr.units) iL (aZ ij hr (aZ eI hr (aa 13::ai) (ag ao)::ai) (ag ao)) (aa 13) (bX _))))) (!-eM) bj)\/!-eM
end
structure Text (K:ab) (ts:List Addr):Prop where
 oP:br K "_law_cell_at" (av 57)
 o5:br K "_law_pen_of" (av 59)
 ui:br K "_law_next" (av 58)
 uf:br K "_law_draw" (av 60)
 wA:br K "is_whole" (av 7)
 uI:br K "is_within" (av 8)
 mG:br K "number_needed" (av 9)
 gT:rT K "numbers_needed_listed" "numbers_needed" (av 44)
 kX:br K "beginning_good" (av 47)
 jD:br K "beginning_needed" (av 48)
 rY:br K "lower_left" (av 52)
 vY:br K "falls_in" (av 14)
 pY:br K "begun_count" (av 51)
 qd:br K "rest_counts" (av 50)
 wg:br K "rests_of" (av 49)
 si:br K "begun_many" (av 43)
 fZ:rT K "numbers_needed_triangle" "numbers_needed" (av 22)
 rO:br K "longer_row" (av 19)
 BG:br K "row_of" (av 20)
 v8:br K "count_of" (av 21)
 vB:br K "kept_many" (av 37)
 sx:br K "order_good" (av 12)
 oK:br K "order_needed" (av 13)
 Cd:br K "put_in" (av 25)
 xf:br K "falls_of" (av 15)
 o8:br K "still_spots" (av 26)
 vR:br K "new_spots" (av 27)
 vX:br K "drawn_by" (av 36)
 DZ:br K "drawn" (av 35)
 n4:br K "drawn_number" (av 38)
 rP:br K "counter_of" (av 53)
 p_:br K "told_needed" (av 46)
 qg:br K "longer_ones" (av 54)
 mL:br K "orders_listed" (av 55)
 tK:br K "orders_all" (av 42)
 pL:br K "upto_number" (av 30)
 zK:br K "path_of" (av 33)
 vm:br K "path_good" (av 32)
 uT:br K "path_many" (av 34)
 rJ:br K "_law_order" (av 61)
 r6:br K "falls_many" (av 16)
 Am:br K "code_of" (av 29)
 t4:br K "code_good" (av 28)
 wq:br K "order_by" (av 31)
 J9:br K "law" (av 62)
 GB:NX K mainGlobals "bool" = some none
 vn:NX K mainGlobals "enumerate" = some none
 IJ:NX K mainGlobals "int" = some none
 sO:NX K mainGlobals "isinstance" = some none
 IC:NX K mainGlobals "len" = some none
 Fq:NX K mainGlobals "list" = some none
 Kr:NX K mainGlobals "max" = some none
 DE:NX K mainGlobals "range" = some none
 JS:NX K mainGlobals "set" = some none
 A3:NX K mainGlobals "sorted" = some none
 Jo:NX K mainGlobals "sum" = some none
 CD:NX K mainGlobals "tuple" = some none
 gC:∃t,NX K mainGlobals "MOST_LISTED" = some (some (Pr 12 t))
 fO:∃t,NX K mainGlobals "MOST_NUMBERS" = some (some (Pr 20 t))
 iF:∃t,NX K mainGlobals "MOST_ROWS" = some (some (Pr 30 t))
 iY:∃t,NX K mainGlobals "MOST_TOLD" = some (some (Pr 300 t))
 dS:FF K ts "counter_of" (av 53)
theorem all_mk {P:NC}{w:N4}{K:ab}{h:Heap}{mg:Str->Option Ng}{fa:Addr} (X:K.In h) (G:h.Ns mainGlobals mg) (hfa:mg "law" = some (.ref fa)){ts:List Addr} (hU:mkU K=true) (t:Text K ts) :
  ∃fd:Qr,(∀(s:Nk) (v:Ng),SH s fd ⟨[v],[]⟩ [("_law_script", v)])/\∀base:Heap,K.In base->base.Ns mainGlobals mg->(∀P∈ts,base.BuiltinsAt mg P)->dJ P w K mg base CX0 16 fa fd ["_law_script"] (spM K (gOf mg) 1 nJ):=by
 have T:Blt mg:=⟨N6 X G t.GB,N6 X G t.vn,N6 X G t.IJ,N6 X G t.sO,N6 X G t.IC,N6 X G t.Fq,N6 X G t.Kr,N6 X G t.DE,N6 X G t.JS,N6 X G t.A3,N6 X G t.Jo,N6 X G t.CD⟩
 obtain⟨jx,gC⟩:=t.gC
 have eE:=P4 X G gC
 obtain⟨bw,fO⟩:=t.fO
 have aN:=P4 X G fO
 obtain⟨gh,iF⟩:=t.iF
 have cX:=P4 X G iF
 obtain⟨lU,iY⟩:=t.iY
 have iR:=P4 X G iY
 have nv:=az.of X G t.oP
 have p8:=az.of X G t.o5
 have tX:=az.of X G t.ui
 have vi:=az.of X G t.uf
 have wy:=az.of X G t.wA
 have vx:=az.of X G t.uI
 have mz:=az.of X G t.mG
 have gW:=k8.of X G t.gT
 have lg:=az.of X G t.kX
 have jI:=az.of X G t.jD
 have tG:=az.of X G t.rY
 have wQ:=az.of X G t.vY
 have pX:=az.of X G t.pY
 have o6:=az.of X G t.qd
 have wB:=az.of X G t.wg
 have sv:=az.of X G t.si
 have fX:=k8.of X G t.fZ
 have s_:=az.of X G t.rO
 have Bl:=az.of X G t.BG
 have xq:=az.of X G t.v8
 have ue:=az.of X G t.vB
 have r_:=az.of X G t.sx
 have nr:=az.of X G t.oK
 have Br:=az.of X G t.Cd
 have wm:=az.of X G t.xf
 have pZ:=az.of X G t.o8
 have vo:=az.of X G t.vR
 have xC:=az.of X G t.vX
 have DX:=az.of X G t.DZ
 have oS:=az.of X G t.n4
 have r8:=az.of X G t.rP
 have pF:=az.of X G t.p_
 have pA:=az.of X G t.qg
 have mF:=az.of X G t.mL
 have rZ:=az.of X G t.tK
 have pU:=az.of X G t.pL
 have zo:=az.of X G t.zK
 have vq:=az.of X G t.vm
 have uw:=az.of X G t.uT
 have sU:=az.of X G t.rJ
 have rL:=az.of X G t.r6
 have zC:=az.of X G t.Am
 have vd:=az.of X G t.t4
 have we:=az.of X G t.wq
 have JE:=az.of X G t.J9
 obtain⟨f,fd,hm,F⟩:=JE
 have e:=hfa.symm.trans hm
 cases e
 refine⟨fd,?_,fun base _ _ hBA=>?_⟩
 ·obtain⟨oc,od,kV,doc,pm,an,cdv,ct,osl,rfl,lk,hcd⟩:=F.ex
  exact fun s v=>.of_eq rfl
 ·have d_:=lD (P:=P) (w:=w) (base:=base) (g:=gOf mg) nv T
  have eR:=mn (P:=P) (w:=w) (base:=base) (g:=gOf mg) p8 T
  have eF:=pI (P:=P) (w:=w) (base:=base) (g:=gOf mg) tX T
  have bL:=pH (P:=P) (w:=w) (base:=base) (g:=gOf mg) vi T eF
  have hV:=tP (P:=P) (w:=w) (base:=base) (g:=gOf mg) wy T
  have aS:=pK (P:=P) (w:=w) (base:=base) (g:=gOf mg) vx T hV
  have aw:=jZ (P:=P) (w:=w) (base:=base) (g:=gOf mg) mz T aS
  have aX:=fY (P:=P) (w:=w) (base:=base) (g:=gOf mg) gW T eE aw
  have dA:=jy (P:=P) (w:=w) (base:=base) (g:=gOf mg) lg T aS
  have cW:=iQ (P:=P) (w:=w) (base:=base) (g:=gOf mg) jI T dA
  have fV:=nP (P:=P) (w:=w) (base:=base) (g:=gOf mg) tG T
  have ba:=sW (P:=P) (w:=w) (base:=base) (g:=gOf mg) wQ T
  have bz:=mI (P:=P) (w:=w) (base:=base) (g:=gOf mg) pX T fV ba
  have eY:=mw (P:=P) (w:=w) (base:=base) (g:=gOf mg) o6 T
  have c0:=sG (P:=P) (w:=w) (base:=base) (g:=gOf mg) wB T eY
  have fL:=oB (P:=P) (w:=w) (base:=base) (g:=gOf mg) sv T aX cW bz c0
  have bS:=fB (P:=P) (w:=w) (base:=base) (g:=gOf mg) fX T cX aw
  have fR:=oE (P:=P) (w:=w) (base:=base) (g:=gOf mg) s_ T
  have jE:=xj (P:=P) (w:=w) (base:=base) (g:=gOf mg) Bl T cX aw fR
  have c7:=sJ (P:=P) (w:=w) (base:=base) (g:=gOf mg) xq T bS jE
  have bE:=pS (P:=P) (w:=w) (base:=base) (g:=gOf mg) ue T c7
  have fW:=nR (P:=P) (w:=w) (base:=base) (g:=gOf mg) r_ T aN aS
  have aC:=kO (P:=P) (w:=w) (base:=base) (g:=gOf mg) nr T fW
  have cP:=xw (P:=P) (w:=w) (base:=base) (g:=gOf mg) Br T aN aC aw
  have cY:=sQ (P:=P) (w:=w) (base:=base) (g:=gOf mg) wm T aC ba
  have aI:=mC (P:=P) (w:=w) (base:=base) (g:=gOf mg) pZ T cY
  have a8:=pT (P:=P) (w:=w) (base:=base) (g:=gOf mg) vo T aI
  have g9:=sE (P:=P) (w:=w) (base:=base) (g:=gOf mg) xC T bE cP aI a8
  have kR:=zi (P:=P) (w:=w) (base:=base) (g:=gOf mg) DX T aN aw c7 g9
  have dY:=kZ (P:=P) (w:=w) (base:=base) (g:=gOf mg) oS T aC ba aI bE a8
  have fQ:=og (P:=P) (w:=w) (base:=base) (g:=gOf mg) r8 T (CM.of X G hBA hU t.dS) c0
  have eV:=mN (P:=P) (w:=w) (base:=base) (g:=gOf mg) pF T iR
  have fh:=mO (P:=P) (w:=w) (base:=base) (g:=gOf mg) pA T bz
  have dP:=kg (P:=P) (w:=w) (base:=base) (g:=gOf mg) mF T fh
  have fG:=nZ (P:=P) (w:=w) (base:=base) (g:=gOf mg) rZ T aX fQ eV bz dP
  have b_:=l_ (P:=P) (w:=w) (base:=base) (g:=gOf mg) pU T
  have dG:=t5 (P:=P) (w:=w) (base:=base) (g:=gOf mg) zo T aC ba b_
  have gw:=pk (P:=P) (w:=w) (base:=base) (g:=gOf mg) vq T aN aS
  have gE:=pE (P:=P) (w:=w) (base:=base) (g:=gOf mg) uw T gw
  have fK:=m_ (P:=P) (w:=w) (base:=base) (g:=gOf mg) sU T bL
  have cV:=oy (P:=P) (w:=w) (base:=base) (g:=gOf mg) rL T cY
  have eI:=u9 (P:=P) (w:=w) (base:=base) (g:=gOf mg) zC T aC b_
  have gD:=pV (P:=P) (w:=w) (base:=base) (g:=gOf mg) vd T aN aS
  have ij:=rm (P:=P) (w:=w) (base:=base) (g:=gOf mg) we T gD
  have DR:=CG (P:=P) (w:=w) (base:=base) (g:=gOf mg) ⟨_,_,hm,F⟩ T d_ eR bL fL kR dY fG dG gE fK aI cV a8 cP eI ij
  exact FN F hm DR
theorem walk {l:PySem.W.OpenLaw}{q:NC}{loose:List Str}{XP:(Str->Option Ng)->Heap->Prop}{YP:N4->Heap->Prop}{d:DefRec}{K:Params->ab}{ts:List Addr} (hn:l.most=some 63) (hdf:d.params.defaults=[])
  (hY:∀(w:N4) (h:Heap),YP w h->(K w.params).In h) (hT:∀(w:N4) (h:Heap),YP w h->∀P∈ts,h.get? P=some (Qd #[])) (hI:∀P,G4 (K P) ts=true)
  (ok:∀ns:List Int,ns.length<=63->∃h,nJ [.scr (ns.map D.int)] []=.ok (.bl true) h)
  (F:∀(w:N4) (mg:Str->Option Ng) (fa:Addr) (h:Heap),(K w.params).In h->h.Ns mainGlobals mg->mg d.name=some (.ref fa) →
   ∃fd:Qr,(∀(s:Nk) (u:Ng),SH s fd ⟨[u],[]⟩ [("_law_script", u)])/\∀base:Heap,(K w.params).In base->base.Ns mainGlobals mg->(∀P∈ts,base.BuiltinsAt mg P)->dJ l.prog w (K w.params) mg base CX0 16 fa fd ["_law_script"] (spM (K w.params) (gOf mg) 1 nJ)) :
  PySem.W.WalkO q loose XP YP l.row.toRowW d [] (fun f vs=>SU f vs):=
 CF (k:=16) hn hdf ⟨rfl,by decide,by decide,rfl⟩ hY hT hI ok F
theorem eD (h1:-(10 ^ 30)<=i) (h2:i<=10 ^ 30):sml i=true:=Fe (NT (show i.natAbs<=10 ^ 30 by lia) (by lia))
theorem wk (e:aG h n=some ds):n<h.length:=by
 unfold aG at e
 grind
theorem sj (e:aG h n=some ds):aG (h.set n (.lst es)) n=some es:=by
 unfold aG;rw[QB (wk e)]
theorem CU (e:aG h n=some ds):aG (h++t) n=some ds:=by
 have:=wk e
 unfold aG at e ⊢;grind
theorem DP {h t:Hh} (hn:n<h.length):(h++t).set n o=h.set n o++t:=List.set_append_left _ _ hn
theorem Cs (e:aG h n=some ds):h.set n (.lst ds)=h:=by
 unfold aG at e
 split at e
 ·rename_i ds' q
  cases e
  refine Py fun i=>?_
  grind
 grind
theorem FH (w:Wf h) (l:bT h.length ds=true):Wf (h.set n (.lst ds)):=by
 unfold Wf at w ⊢
 rw[PX,NU] at *
 intro x hx
 rcases List.mem_or_eq_of_mem_set hx with hx | hx
 ·grind
 ·subst hx;exact l
structure Pen where
 a:Int
 b:Int
 s:Int
noncomputable abbrev cD (p:Pen):List D:=[.int p.a,.int p.b,.int p.s]
noncomputable def nxt (x:Int):Int:=((x+7919) % 2147483647*((x+7919) % 2147483647)+48271*((x+7919) % 2147483647)+12345) % 2147483629
noncomputable def cE (p:Pen) (m:Int):Int:=if p.b=1/\0<p.a then p.a % m else nxt (nxt p.s+7) / 64 % m
noncomputable def cn (p:Pen) (m:Int):Pen:=if p.b=1/\0<p.a then ⟨p.a / m,p.b,p.s⟩ else ⟨p.a,p.b,nxt (nxt p.s+7)⟩
theorem mQ (p) (h:0<m):0<=cE p m:=by unfold cE;split<;>exact Int.emod_nonneg _ (by lia)
theorem jY (p) (h:0<m):cE p m<m:=by unfold cE;split<;>exact Int.emod_lt_of_pos _ h
@[simp] theorem LR {x:Int}{h:Hh}:dF [.int x] h=.ok (.int (nxt x)) h:=by
 have h1:0<=(x+7919) % 2147483647:=Int.emod_nonneg _ (by decide)
 have h2:(x+7919) % 2147483647<2147483647:=Int.emod_lt_of_pos _ (by decide)
 have s1:sml ((x+7919) % 2147483647)=true:=eD (by lia) (by lia)
 have s2:sml 48271=true:=by decide +kernel
 simp[dF,b9,s1,s2,nxt]
theorem A7 {p:Pen}{m:Int}{h:Hh}{n:Nat} (e:aG h n=some (cD p)) (hm:0<m) (hm2:m<=10 ^ 20):aH [.ref n,.int m] h=.ok (.int (cE p m)) (h.set n (.lst (cD (cn p m)))):=by
 have s1:sml m=true:=eD (by lia) (by lia)
 have s2:sml 64=true:=by decide +kernel
 have i2:∀(x y z:Int) (h:Hh),ixK [D.int x,.int y,.int z] 2 h=.ok (.int z) h:=fun _ _ _ _=>rfl
 have n0:ixN (cD p).length 0=some 0:=rfl
 have n2:ixN (cD p).length 2=some 2:=rfl
 by_cases c:p.b=1
 ·by_cases c2:0<p.a
  ·simp[aH,b9,vI e,c,c2,hm,s1,sD e n0,cE,cn]
  ·simp[aH,b9,vI e,c,c2,i2,sD e n2,vI (sj e),s1,s2,hm,cE,cn]
 ·simp[aH,b9,vI e,c,i2,sD e n2,vI (sj e),s1,s2,hm,cE,cn]
@[simp] theorem yM {h t:Hh} (hm:0<m/\m<=10 ^ 20):aH [.ref h.length,.int m] (h++.lst (cD p)::t)=.ok (.int (cE p m)) (h++.lst (cD (cn p m))::t):=by
 rw[A7 i_ hm.1 hm.2,kx]
noncomputable def iT (c:Int):Pen:=⟨max c (0 - c),if max c (0 - c) ≥ 10 ^ 18 then 1 else 0,max c (0 - c) % 1000003⟩
@[simp] theorem Na {c:Int}{h:Hh}:cj [.int c] h=.ok (.ref h.length) (h++[.lst (cD (iT c))]):=by
 have s1:sml 10=true:=by decide +kernel
 simp[cj,b9,s1,iT]
@[simp] theorem L0 {ns:List Int}{h:Hh}:bY [.scr (ns.map D.int),.int 0] h=.ok (.int (ns.headD 0)) h:=by
 cases ns with
 | nil=>simp[bY,b9]
 | cons c r=>simp[bY,b9]
@[simp] theorem KG {i:Int}{h:Hh}:g8 [.int i] h=.ok (.bl true) h:=by rfl
@[simp] theorem Jm {i a b:Int}{h:Hh}:bo [.int i,.int a,.int b] h=.ok (.bl (decide (a<=i/\i<=b))) h:=by
 by_cases z:a<=i<;>simp[bo,b9,z]
@[simp] theorem Jf {i a b:Int}{h:Hh} (hi:a<=i/\i<=b):aF [.int i,.int a,.int b] h=.ok .non h:=by
 simp[aF,b9,hi]
structure Ord (n:Nat) (xs:List Int):Prop where
 len:xs.length=n
 nd:xs.Nodup
 lo:∀x∈xs,0<=x
 hi:∀x∈xs,x<n
noncomputable def fE (lo:Int) (n:Nat):List Int:=(Nj n).map fun(i:Nat)=>lo+i
theorem mW (lo:Int) (n:Nat):b7 lo n=(fE lo n).map D.int:=by simp[b7,fE,O1]
theorem iP (lo:Int) (n:Nat):(fE lo n).length=n:=by simp[fE]
theorem vy (n:Nat):Ord n (fE 0 n):=by
 refine⟨iP _ _,?_,?_,?_⟩
 ·unfold fE Ss
  rw[QL]
  exact Rb.imp (fun{a b} h e=>h (by lia)) Q4
 ·intro x hx;simp[fE] at hx;lia
 ·intro x hx;simp[fE] at hx;lia
noncomputable def gf (s:Pen × List Int) (_:Nat):Pen × List Int:=(cn s.1 s.2.length,s.2.eraseIdx (cE s.1 s.2.length).toNat)
noncomputable def iM (s:Pen × List Int) (_:Nat):Int:=gI s.2 (cE s.1 s.2.length).toNat
noncomputable def tO (p:Pen) (k:Nat):(Pen × List Int) × List Int:=(Nj k).foldl (fun a x=>(gf a.1 x,a.2++[iM a.1 x])) ((p,fE 0 k),[])
noncomputable def lz (p:Pen) (k:Nat):Pen:=(tO p k).1.1
noncomputable def mD (p:Pen) (k:Nat):List Int:=(tO p k).2
theorem qL {σ X β:Type} (f:σ->X->σ) (g:σ->X->β):∀(xs:List X) (s:σ) (o:List β),(xs.foldl (fun a x=>(f a.1 x,a.2++[g a.1 x])) (s,o)).1=xs.foldl f s
 | [],_,_=>rfl
 | x::xs,s,o=>by rw[Oz,Oz];exact qL f g xs _ _
theorem getElem_erase {X:Type}:∀{l:List X}{n:Nat} (h:n<l.length),(l[n]::l.eraseIdx n).Perm l
 | x::l,0,_=>by simp
 | x::l,n+1,h=>by
  simp only[List.getElem_cons_succ,List.eraseIdx_cons_succ]
  exact(QU.swap _ _ _).trans (QU.cons x (getElem_erase (by simpa using h)))
theorem Eo (p:Pen) (k:Nat):∀j,j<=k->∀a,a=(Nj j).foldl (fun a x=>(gf a.1 x,a.2++[iM a.1 x])) ((p,fE 0 k),[])->a.1.2.length=k - j/\a.2.length=j/\(a.2++a.1.2).Perm (fE 0 k):=by
 intro j
 induction j with
 | zero=>intro _ a e;subst e;simp[iP]
 | succ j ih=>
  intro hj a e
  rw[Pz,List.foldl_append] at e
  generalize hb:(Nj j).foldl (fun a x=>(gf a.1 x,a.2++[iM a.1 x])) ((p,fE 0 k),[])=b at e
  obtain⟨l1,l2,pm⟩:=ih (by lia) b hb.symm
  subst e
  simp only[Oz,List.foldl_nil,gf,iM]
  have hp:(0:Int)<(b.1.2.length:Nat):=by lia
  have d0:=mQ b.1.1 hp
  have d1:=jY b.1.1 hp
  generalize cE b.1.1 (b.1.2.length:Nat)=d at d0 d1
  have hd:d.toNat<b.1.2.length:=by lia
  refine⟨by rw[List.length_eraseIdx,if_pos hd];lia,by simp[l2],?_⟩
  refine QU.trans ?_ pm
  rw[Ow]
  refine QU.append_left _ ?_
  rw[iV hd]
  exact getElem_erase hd
theorem AU (p:Pen) (k:Nat):Ord k (mD p k):=by
 obtain⟨l1,l2,pm⟩:=Eo p k k (Ni _) _ rfl
 have e:(tO p k).1.2=[]:=List.eq_nil_of_length_eq_zero (by unfold tO;lia)
 have pm':(mD p k).Perm (fE 0 k):=by
  unfold mD
  have:(tO p k).2++(tO p k).1.2=(tO p k).2:=by rw[e,PU]
  rw[<- this];exact pm
 have o:=vy k
 exact⟨by rw[pm'.length_eq,o.len],pm'.nodup_iff.mpr o.nd,fun x hx=>o.lo x (pm'.mem_iff.mp hx),fun x hx=>o.hi x (pm'.mem_iff.mp hx)⟩
theorem IV {n k:Nat}{ds:List D}{i:Int}{d:D}{h:Hh} (e:aG h n=some ds) (e2:ixN ds.length i=some k) (e3:ds[k]?=some d) (hl:ds.length<=1000000):vL (.ref n) [.int i] h=.ok d (h.set n (.lst (ds.eraseIdx k))):=by delta vL;dsimp only;rw[e];dsimp only;rw[e2];dsimp only;rw[e3];exact if_pos hl
theorem kA {X Y:Type} (f:X->Y):∀(xs:List X) (k:Nat),(xs.map f).eraseIdx k=(xs.eraseIdx k).map f
 | [],_=>rfl
 | _::_,0=>rfl
 | x::xs,k+1=>by simp[kA f xs k]
theorem CP {p:Pen}{k:Nat}{h:Hh}{n:Nat} (e:aG h n=some (cD p)) (w:Wf h) (hk:k<=1000):cG [.ref n,.int k] h=.ok (.tup ((mD p k).map D.int)) (h.set n (.lst (cD (lz p k)))):=by
 have hn:=wk e
 have z1:k<=1000000:=by lia
 have st:∀(s:Pen × List Int) (x:Nat) (r:List Nat),(s.2.length=(x::r).length/\(x::r).length<=k)->((gf s x).2.length=r.length/\r.length<=k) ∧
   (g_ vL (af 1) (ae (ah aH (ae (af 2) (ae (ah bH (ae (af 1) aj)) aj))) aj)) [some (D.int (0+(x:Int))),some (.ref h.length),some (.ref n)] (h.set n (.lst (cD s.1))++[.lst (s.2.map D.int)])=.ok (D.int (iM s x)) (h.set n (.lst (cD (gf s x).1))++[.lst ((gf s x).2.map D.int)]):=by
  intro s x r ⟨hs,hr⟩
  simp only[N8] at hs hr
  have hp:(0:Int)<(s.2.length:Nat):=by lia
  have hp2:((s.2.length:Nat):Int)<=10 ^ 20:=by lia
  have d0:=mQ s.1 hp
  have d1:=jY s.1 hp
  have hd:(cE s.1 s.2.length).toNat<s.2.length:=by lia
  refine⟨⟨by simp only[gf];rw[List.length_eraseIdx,if_pos hd];lia,by lia⟩,?_⟩
  have hL:(h.set n (.lst (cD s.1))).length=h.length:=PX
  have e1:aG (h.set n (.lst (cD s.1))++[.lst (s.2.map D.int)]) n=some (cD s.1):=CU (sj e)
  have e2:aG (h.set n (.lst (cD s.1))++[.lst (s.2.map D.int)]) h.length=some (s.2.map D.int):=by rw[<- hL];exact i_
  have e3:(h.set n (.lst (cD s.1))++[O.lst (s.2.map D.int)]).set n (.lst (cD (cn s.1 s.2.length)))=h.set n (.lst (cD (cn s.1 s.2.length)))++[.lst (s.2.map D.int)]:=by rw[DP (by lia),List.set_set]
  have hL':(h.set n (.lst (cD (cn s.1 s.2.length)))).length=h.length:=PX
  have e4:aG (h.set n (.lst (cD (cn s.1 s.2.length)))++[.lst (s.2.map D.int)]) h.length=some (s.2.map D.int):=by rw[<- hL'];exact i_
  have e5:(s.2.map D.int)[(cE s.1 s.2.length).toNat]?=some (.int (iM s x)):=by
   rw[NN,Np hd];simp[iM,iV hd]
  have e6:ixN (s.2.map D.int).length (cE s.1 s.2.length)=some (cE s.1 s.2.length).toNat:=by rw[Nw];exact C8 (by lia) hd
  simp only[Dn,Fo,Hw,f_,BZ e2,if_true,Ie,H_,Iu,GJ e2,Nw,A7 e1 hp hp2,e3,IV e4 e6 e5 (by rw[Nw];lia)]
  rw[<- hL',kx,kA]
  rfl
 obtain⟨ys,q1,q2,q3⟩:=qY (te:=g_ vL (af 1) (ae (ah aH (ae (af 2) (ae (ah bH (ae (af 1) aj)) aj))) aj)) (ee:=fun d=>[some d,some (.ref h.length),some (.ref n)])
  (fun(s:Pen × List Int)=>h.set n (.lst (cD s.1))++[.lst (s.2.map D.int)]) (fun(i:Nat)=>D.int (0+i)) gf (fun s x=>D.int (iM s x)) (fun r s=>s.2.length=r.length/\r.length<=k) st (Nj k) (p,fE 0 k) ⟨by simp[iP],by simp⟩
 have q1':cM tt1 (g_ vL (af 1) (ae (ah aH (ae (af 2) (ae (ah bH (ae (af 1) aj)) aj))) aj)) (fun d=>[some d,some (.ref h.length),some (.ref n)]) (b7 0 k) (h++[.lst (b7 0 k)])=.ok ((mD p k).map D.int) (h.set n (.lst (cD (lz p k)))++[.lst []]):=by
  have a1:h.set n (.lst (cD p))=h:=Cs e
  have a2:((Nj k).foldl gf (p,fE 0 k)).2=[]:=List.eq_nil_of_length_eq_zero q2.1
  have a3:((Nj k).foldl gf (p,fE 0 k)).1=lz p k:=by unfold lz tO;rw[qL]
  have a4:ys=(mD p k).map D.int:=by
   rw[q3]
   unfold mD tO
   have key:∀(xs:List Nat) (s:Pen × List Int) (o:List Int),(xs.foldl (fun(a:(Pen × List Int) × List D) x=>(gf a.1 x,a.2++[D.int (iM a.1 x)])) (s,o.map D.int)).2=((xs.foldl (fun(a:(Pen × List Int) × List Int) x=>(gf a.1 x,a.2++[iM a.1 x])) (s,o)).2).map D.int:=by
    intro xs
    induction xs with
    | nil=>intro s o;rfl
    | cons x xs ih=>
     intro s o
     rw[Oz,Oz]
     have:=ih (gf s x) (o++[iM s x])
     simpa using this
   exact key _ _ []
  simp only[a1,a2,a3,a4,RS] at q1
  rw[<- mW] at q1
  exact q1
 have hL:(h.set n (.lst (cD (lz p k)))).length=h.length:=PX
 have w':Wf (h.set n (.lst (cD (lz p k)))):=FH w rfl
 have ex:di h (.tup ((mD p k).map D.int)) (h.set n (.lst (cD (lz p k)))++[.lst []])=.ok (.tup ((mD p k).map D.int)) (h.set n (.lst (cD (lz p k)))):=by
  have:=fT (h:=h.set n (.lst (cD (lz p k)))) (t:=[.lst []]) (d:=.tup ((mD p k).map D.int)) w' (by simp)
  unfold di at this ⊢
  rw[hL] at this
  exact this
 have hk6:k<=1000000:=by lia
 simp[cG,b9,z1,kE,q1',ex,hk6]
theorem GA {n:Nat}{xs:List Int}{h:Hh} (o:Ord n xs) (h1:1<=n) (h2:n<=20) (w:Wf h):dN [.tup (xs.map D.int)] h=.ok (.bl true) h:=by
 have hl:=o.len
 obtain⟨q,_⟩:=uF (tg:=gN 1) (body:=bR (cQ (aB gR (ah bo (ae (af 1) (ae (cC (.int 0)) (ae (aq dm (ah bH (ae (af 0) aj)) (cC (.int 1))) aj)))))) (aU (cC (.bl false))) bc)
  (fun(s:Option D)=>[some (.tup (xs.map D.int)),s]) (fun _=>([]:Hh)) D.int (fun s x=>some (.int x)) (fun r s=>∀x∈r,0<=x/\x<n) (fun s x r hr=>⟨fun y hy=>hr y (ox _ hy),.inl (by
   have:=hr x Nt
   have z:0<=x/\x<=↑xs.length - 1:=by lia
   simp[z])⟩) xs none (fun x hx=>⟨o.lo x hx,o.hi x hx⟩)
 have c1:(1:Int)<=xs.length:=by lia
 have c2:(xs.length:Int)<=20:=by lia
 have c3:xs.length<=4000:=by lia
 have c4:=Ag o.nd
 have e:=fT (h:=[]) (t:=[]) (d:=.bl true) Wf.nil rfl
 have ln:bH [D.ref 0] [O.set (unl xs)]=.ok (.int (unl xs).length) [O.set (unl xs)]:=rfl
 have e2:di [] (D.bl true) [O.set (unl xs)]=.ok (.bl true) []:=fT (h:=[]) (t:=[O.set (unl xs)]) Wf.nil rfl
 have lo:bT 0 [D.tup (xs.map D.int)]=true:=by simp[bT,iB]
 simp[dN,lq,lo,b9,c1,c2,q,c3,c4,ln,e2,iB]
theorem fD {n:Nat}{xs:List Int}{h:Hh} (o:Ord n xs) (h1:1<=n) (h2:n<=20) (w:Wf h):aR [.tup (xs.map D.int)] h=.ok .non h:=by
 simp[aR,b9,GA o h1 h2 w]
noncomputable def lC {X:Type} (xs:List X) (lo hi:Option Int):List X:=(xs.drop (HT.sIx xs.length 0 lo)).take (HT.sIx xs.length xs.length hi - HT.sIx xs.length 0 lo)
theorem j8 (f) (xs:List X) (lo hi):cutD (xs.map f) lo hi=(lC xs lo hi).map f:=by
 unfold cutD lC
 simp
theorem ya (xs:List X) (k:Nat):lC xs none (some (k:Int))=xs.take k:=by
 unfold lC
 rw[HT.vh,HT.xG]
 simp
theorem qZ (xs:List X) (k:Nat):lC xs (some (k:Int)) none=xs.drop k:=by
 unfold lC
 rw[HT.vh,HT.xG]
 rcases Nat.le_total k xs.length with h | h
 ·rw[RZ h,N2 (by simp)]
 simp_all
theorem yf (i):∀ns:List Int,((ns.map D.int).any fun d=>eqF d (.int i))=ns.any (· == i)
 | []=>rfl
 | n::r=>by rw[ND,O6,O6,yf i r];rfl
theorem Ap (ns:List Int):(ns.map D.int).all fk=true:=by simp[fk]
@[simp] theorem Kk {neg:Bool}{i:Int}{ns:List Int}{h:Hh}:dIn neg (.int i) (.tup (ns.map D.int)) h=.ok (.bl (if neg then !(ns.any (· == i)) else ns.any (· == i))) h:=by
 simp only[dIn,f9,fk,Ap,and_self,if_true,yf]
noncomputable def gY (xs:List Int):List Nat:=(Nj (xs.length - 1)).filter fun i=>decide (gI xs (i+1)<gI xs i)
noncomputable def cA (xs:List Int):List Int:=(gY xs).map fun(i:Nat)=>(i:Int)
theorem qA {xs:List Int}{h:Hh}{d:D} (hd:∀(i:Int),dIx d (.int i) h=ixK (xs.map D.int) i h):cM (aB asB (aq dGt (aq dIx (af 1) (af 0)) (aq dIx (af 1) (aq (aW ay) (af 0) (cC (.int 1)))))) (af 0) (fun x=>[some x,some d]) (b7 0 (xs.length - 1)) h=.ok ((cA xs).map D.int) h:=by
 rw[vV (fun i=>decide (gI xs (i+1)<gI xs i)) (fun i=>D.int i)]
 ·simp[cA,gY,O1]
 ·intro i hi
  have e1:ixK (xs.map D.int) (i:Int) h=.ok (.int (gI xs i)) h:=yd rfl (by lia)
  have e2:ixK (xs.map D.int) ((i:Int)+1) h=.ok (.int (gI xs (i+1))) h:=yd (by lia) (by lia)
  simp_all
theorem jH {xs:List Int}{h:Hh} (hl:xs.length<=1000) (h1:1<=xs.length):bu [.tup (xs.map D.int)] h=.ok (.tup ((cA xs).map D.int)) h:=by
 have z1:((xs.length:Int) - 1).natAbs<=1000000:=by lia
 have z2:((xs.length:Int) - 1).toNat=xs.length - 1:=by lia
 have z3:xs.length - 1<=1000000:=by lia
 have q:=qA (xs:=xs) (h:=h) (d:=.tup (xs.map D.int)) (fun i=>ET)
 simp[bu,b9,z1,z2,z3,q]
theorem nL {n:Nat}{xs:List Int}{h:Hh} (o:Ord n xs) (h1:1<=n) (h2:n<=20) (w:Wf h):dy [.tup (xs.map D.int)] h=.ok (.tup ((cA xs).map D.int)) h:=by
 simp[dy,b9,fD o h1 h2 w,jH (h:=h) (xs:=xs) (by have:=o.len;lia) (by have:=o.len;lia)]
theorem BJ (w:Wf h) (p):Wf (h++[.lst (cD p)]):=w.app rfl
theorem vt (p){m:Nat} (h:0<m):∃k:Nat,cE p (m:Int)=(k:Int)/\k<m:=by
 have h0:=mQ p (show(0:Int)<(m:Int) by lia)
 have h1:=jY p (show(0:Int)<(m:Int) by lia)
 exact⟨(cE p m).toNat,by lia,by lia⟩
theorem Kd (p) (m) (h:0<m):∃k:Nat,cE p m=(k:Int)/\(k:Int)<m:=by
 have h0:=mQ p h
 have h1:=jY p h
 exact⟨(cE p m).toNat,by lia,by lia⟩
theorem qV (p){m:Nat} (h:0<m):∃k:Nat,1+cE p (m:Int)=(k:Int)/\1<=k/\k<=m:=by
 obtain⟨k,e,hk⟩:=vt p h
 exact⟨k+1,by lia,by lia,by lia⟩
theorem qk (ns) (lo hi):cutD (ns.map D.int) lo hi=(lC ns lo hi).map D.int:=j8 _ _ _ _
theorem Dw (xs:List X) (lo hi):(lC xs lo hi).length<=xs.length:=by
 unfold lC;grind
theorem jA:∀(n:Nat) (xs:List Int),xs.Nodup->(∀x∈xs,0<=x/\x<n)->xs.length<=n
 | 0,xs,_,h=>by
  cases xs with
  | nil=>simp
  | cons x r=>have:=h x Nt;lia
 | n+1,xs,nd,h=>by
  by_cases hm:(n:Int)∈xs
  ·have ih:=jA n (xs.erase n) (nd.erase _) (fun x hx=>by
    obtain⟨a,b⟩:=(Ss.mem_erase_iff nd).mp hx
    have:=h x b;lia)
   rw[List.length_erase_of_mem hm] at ih
   lia
  ·have ih:=jA n xs nd (fun x hx=>by
    have a:=h x hx
    have b:x≠(n:Int):=fun e=>hm (e ▸ hx)
    lia)
   lia
theorem xN {n:Nat}{xs:List Int} (o:Ord n xs){j:Int} (h0:0<=j) (h1:j<n):j∈xs:=by
 refine Classical.byContradiction fun hj=>?_
 have:=jA n (j::xs) (Of.mpr ⟨hj,o.nd⟩) (fun x hx=>by
  rcases Nx.mp hx with rfl | hx
  ·exact⟨h0,h1⟩
  ·exact⟨o.lo x hx,o.hi x hx⟩)
 rw[N8,o.len] at this
 lia
theorem J0 {xs ys:List Int} (h:xs.length=ys.length) (e:∀i,i<xs.length->gI xs i=gI ys i):xs=ys:=by
 refine QZ h fun i h1 h2=>?_
 have:=e i h1
 rwa [iV h1,iV h2] at this
noncomputable def aY (xs:List Int) (m:Int) (s:Nat):List Int:=xs.take s++m::xs.drop s
noncomputable def fc:List Int->Nat
 | a::b::t=>(if b<a then 1 else 0)+fc (b::t)
 | _=>0
theorem lY {X:Type} (f:Nat->X) (p:Nat->Bool) (n:Nat):(Nj (n+1)).filter p=(if p 0 then [0] else [])++((Nj n).filter fun i=>p (i+1)).map (· + 1):=by
 rw[List.range_succ_eq_map,List.filter_cons,List.filter_map]
 cases p 0<;>rfl
theorem uB (a b:Int) (t:List Int):gY (a::b::t)=(if b<a then [0] else [])++(gY (b::t)).map (· + 1):=by
 unfold gY
 have:(a::b::t).length - 1=((b::t).length - 1)+1:=by simp
 rw[this,lY (f:=id)]
 congr 1
 by_cases z:b<a<;>simp[gI,z]
theorem ik:∀xs:List Int,(gY xs).length=fc xs
 | []=>rfl
 | [_]=>rfl
 | a::b::t=>by
  rw[uB,fc,<- ik (b::t)]
  by_cases z:b<a<;>simp[z,Nat.add_comm]
theorem xM {m:Int}{t:List Int} (h:∀x∈t,x<m):fc (m::t)=(if t=[] then 0 else 1)+fc t:=by
 cases t with
 | nil=>rfl
 | cons b t=>simp[fc,h b Nt]
theorem Gz {a m:Int}{t:List Int} (h:a<m):fc (a::m::t)=fc (m::t):=by
 have:¬ m<a:=by lia
 simp[fc,this]
noncomputable def aJ (xs:List Int) (s:Nat):Bool:=decide (s=xs.length) || decide (1<=s/\s<xs.length/\gI xs s<gI xs (s - 1))
noncomputable def bJ (xs:List Int):List Int:=((gY xs).map fun(i:Nat)=>(i:Int)+1)++[(xs.length:Int)]
theorem dR {xs:List Int} (h:1<=xs.length):((Nj (xs.length+1)).filter (aJ xs)).map (fun(i:Nat)=>(i:Int))=bJ xs:=by
 rw[lY (f:=id)]
 have e0:aJ xs 0=false:=by simp[aJ];lia
 obtain⟨k,hk⟩:∃k,xs.length=k+1:=⟨xs.length - 1,by lia⟩
 rw[e0,if_neg NK,Pd,hk,Pz,QA,Ou,Ou]
 unfold bJ gY
 rw[hk]
 congr 1
 ·rw[O1,show k+1 - 1=k by lia]
  have e1:(Nj k).filter (fun i=>aJ xs (i+1))=(Nj k).filter fun i=>decide (gI xs (i+1)<gI xs i):=by
   apply QM
   intro i hi
   have hi:i<k:=by simpa using hi
   have a1:¬ (i+1=k+1):=by lia
   have a2:i+1<k+1:=by lia
   simp[aJ,hk,a2]
   lia
  rw[e1]
  apply OH
  intro i _
  simp
 ·have:aJ xs (k+1)=true:=by simp[aJ,hk]
  simp[this]
theorem wR {xs:List Int} (h:1<=xs.length):((Nj xs.length).filter (fun(i:Nat)=>!((bJ xs).any (· == (i:Int)))))=(Nj (xs.length+1)).filter fun i=>!aJ xs i:=by
 rw[Pz,QA]
 have:aJ xs xs.length=true:=by simp[aJ]
 simp only[List.filter_cons,this,Bool.not_true,Rz,if_false,List.filter_nil,PU]
 apply QM
 intro i hi
 have hi:i<xs.length:=by simpa using hi
 congr 1
 rw[<- dR h,Sz,PZ,Qh]
 constructor
 ·rintro⟨j,hj,e⟩
  have e:(j:Int)=i:=by simpa using e
  have e:j=i:=by lia
  subst e
  exact(N0.mp hj).2
 ·intro e
  exact⟨i,N0.mpr ⟨by simp;lia,e⟩,by simp⟩
theorem rS {n:Nat}{xs:List Int}{h:Hh} (o:Ord n xs) (h1:1<=n) (h2:n<=20) (w:Wf h):aP [.tup (xs.map D.int)] h=.ok (.tup ((bJ xs).map D.int)) h:=by
 have hl:(cA xs).length<=20:=by
  have:=o.len
  have:(cA xs).length<=xs.length - 1:=by
   unfold cA gY;rw[Nw];exact NT (List.length_filter_le _ _) (by simp)
  lia
 have q:=oQ (h:=h) (te:=aq (aW ay) (af 0) (cC (.int 1))) (ee:=fun d=>[some d]) D.int (fun i=>D.int (i+1)) (cA xs) (fun x _=>by simp)
 have z1:(cA xs).length<=1000000:=by lia
 have z2:(cA xs).length+1<=1000000:=by lia
 simp[aP,b9,nL o h1 h2 w,q,z1,z2]
 simp[bJ,cA]
theorem EG {n:Nat}{xs:List Int}{h:Hh} (o:Ord n xs) (h1:1<=n) (h2:n<=20) (w:Wf h):a9 [.tup (xs.map D.int)] h=.ok (.tup ((((Nj (n+1)).filter fun i=>!aJ xs i).map fun(i:Nat)=>(i:Int)).map D.int)) h:=by
 have hl:=o.len
 have z1:xs.length<=1000000:=by lia
 have z3:xs.length<=1000000:=by lia
 have q:=vV (h:=h) (n:=xs.length) (tt:=aB asB (aq (dIn true) (af 0) (af 1))) (te:=af 0) (ee:=fun x=>[some x,some (.tup ((bJ xs).map D.int))]) (fun i=>!((bJ xs).any (· == (i:Int)))) (fun i=>D.int i) (fun i _=>by simp)
 simp[a9,b9,rS o h1 h2 w,z1,z3,q]
 rw[wR (by lia),hl]
 rfl
theorem Ke {n:Nat}{xs:List Int}{h:Hh}{s:Nat} (o:Ord n xs) (h1:1<=n) (h2:n<20) (hs:s<=n) (w:Wf h):cx [.tup (xs.map D.int),.int s] h=.ok (.tup ((aY xs n s).map D.int)) h:=by
 have hl:=o.len
 have z:0<=(s:Int)/\(s:Int)<=(xs.length:Int):=by lia
 have z2:¬ ((xs.length:Int)=20):=by lia
 have z3:(Sq s xs).length+1<=1000000:=by simp;lia
 have z4:(Sq s xs).length+1+(xs.length - s)<=1000000:=by simp;lia
 simp[cx,b9,fD o h1 (by lia) w,z,z2,j8,ya,qZ,-List.map_take,-List.map_drop]
 rw[if_pos (by lia),if_pos (by lia)]
 simp[aY,hl]
noncomputable def K_ (xs:List Int):List Int:=(Nj (xs.length+1)).map fun(k:Nat)=>((k:Int)+1)*gI xs k+((xs.length:Int)+1 - k)*(if k=0 then 0 else gI xs (k - 1))
noncomputable def dD:Nat->List Int
 | 0=>[]
 | 1=>[1]
 | n+2=>K_ (dD (n+1))
noncomputable def eN (n k:Nat):Nat:=(gI (dD n) k).toNat
theorem gQ:∀n:Nat,n<21->1<=n->((dD n).length=n)/\∀k:Nat,k<21->(lC (dD n) (some (k:Int)) (some ((k:Int)+1))).sum=gI (dD n) k/\0<=gI (dD n) k/\gI (dD n) k<=10 ^ 20/\(n<=k->gI (dD n) k=0):=by decide +kernel
theorem JB {n k:Nat} (h:n<21) (h1:1<=n) (hk:k<21):gI (dD n) k=(eN n k:Int):=by
 have:=((gQ n h h1).2 k hk).2.1
 unfold eN;lia
theorem B4:∀n:Nat,n<20->1<=n->∀k:Nat,k<21->eN (n+1) k=(k+1)*eN n k+(n+1 - k)*(if k=0 then 0 else eN n (k - 1)):=by decide +kernel
theorem JY {n k:Nat} (h:n<21) (h1:1<=n) (hk:k<21) (p:1<=eN n k):k<n:=by
 have:=((gQ n h h1).2 k hk).2.2.2
 by_cases z:n<=k
 ·have:=this z
  unfold eN at p
  lia
 ·lia
theorem ie {m:Int}:∀(xs:List Int) (s:Nat),(∀x∈xs,x<m)->s<=xs.length->fc (aY xs m s)=fc xs+(if aJ xs s then 0 else 1)
 | xs,0,h,_=>by
  unfold aY aJ
  rw[List.take_zero,Sa,Pd,xM h]
  cases xs with
  | nil=>simp
  | cons a t=>simp;lia
 | [],s+1,_,hs=>by simp at hs
 | [a],1,h,_=>by simp[aY,aJ,fc];have:=h a (by simp);lia
 | [a],s+2,_,hs=>by simp at hs
 | a::b::t,1,h,_=>by
  have ha:=h a (by simp)
  have:aY (a::b::t) m 1=a::m::b::t:=rfl
  rw[this,Gz ha,xM (fun x hx=>h x (ox _ hx))]
  have e:aJ (a::b::t) 1=decide (b<a):=by simp[aJ,gI]
  rw[e,fc]
  by_cases z:b<a<;>simp[z]<;>lia
 | a::b::t,s+2,h,hs=>by
  have ih:=ie (m:=m) (b::t) (s+1) (fun x hx=>h x (ox _ hx)) (by simpa using hs)
  have e1:aY (a::b::t) m (s+2)=a::aY (b::t) m (s+1):=rfl
  have e2:aY (b::t) m (s+1)=b::aY t m s:=rfl
  have e3:fc (a::b::aY t m s)=(if b<a then 1 else 0)+fc (b::aY t m s):=rfl
  have e4:aJ (a::b::t) (s+2)=aJ (b::t) (s+1):=by simp[aJ,gI]
  rw[e4,e1,e2,e3,<- e2,ih]
  have e5:fc (a::b::t)=(if b<a then 1 else 0)+fc (b::t):=rfl
  rw[e5]
  lia
noncomputable def cU (xs:List Int):List Nat:=(Nj (xs.length+1)).filter (aJ xs)
noncomputable def iN (xs:List Int):List Nat:=(Nj (xs.length+1)).filter fun i=>!aJ xs i
theorem kK {xs:List Int} (h:1<=xs.length):(cU xs).length=fc xs+1:=by
 have:=congrArg List.length (dR h)
 rw[Nw] at this
 unfold cU
 rw[this,<- ik]
 simp[bJ]
theorem ux {X:Type} (p:X->Bool):∀l:List X,(l.filter p).length+(l.filter fun x=>!p x).length=l.length
 | []=>rfl
 | x::l=>by
  have:=ux p l
  cases h:p x<;>simp[h]<;>lia
theorem tm {xs:List Int} (h:1<=xs.length):(iN xs).length+fc xs=xs.length:=by
 have a:=kK h
 have b:=ux (aJ xs) (Nj (xs.length+1))
 unfold cU at a
 unfold iN
 rw[P5] at b
 lia
theorem Bz {xs:List Int}{i:Nat} (h:i<(cU xs).length):(cU xs)[i]<=xs.length/\aJ xs (cU xs)[i]=true:=by
 have:=N0.mp (show(cU xs)[i]∈(Nj (xs.length+1)).filter (aJ xs) from Q3 h)
 exact⟨Pb (N7.mp this.1),this.2⟩
theorem GQ {xs:List Int}{i:Nat} (h:i<(iN xs).length):(iN xs)[i]<=xs.length/\aJ xs (iN xs)[i]=false:=by
 have:=N0.mp (show(iN xs)[i]∈(Nj (xs.length+1)).filter (fun i=>!aJ xs i) from Q3 h)
 exact⟨Pb (N7.mp this.1),by simpa using this.2⟩
noncomputable def idx (l:List Nat) (s:Nat):Nat:=(l.findIdx? (· == s)).getD 0
theorem mY {X:Type} [BEq X] [LawfulBEq X]:∀{l:List X} (_:l.Nodup){i:Nat} (h:i<l.length),l.findIdx? (· == l[i])=some i
 | x::l,nd,0,_=>by simp[List.findIdx?_cons]
 | x::l,nd,i+1,h=>by
  have hi:i<l.length:=by simpa using h
  have ne:(x == l[i])=false:=beq_eq_false_iff_ne.mpr fun e=>(Of.mp nd).1 (e ▸ Q3 hi)
  have ih:=mY (Of.mp nd).2 hi
  rw[List.getElem_cons_succ,List.findIdx?_cons,ne,ih]
  rfl
theorem xh {l:List Nat} (nd:l.Nodup){i:Nat} (h:i<l.length):idx l l[i]=i:=by unfold idx;rw[mY nd h];rfl
theorem mR {l:List Nat} (nd:l.Nodup){s:Nat} (h:s∈l):idx l s<l.length/\l.getD (idx l s) 0=s/\l.findIdx? (· == s)=some (idx l s):=by
 obtain⟨i,hi,rfl⟩:=Pq.mp h
 rw[xh nd hi]
 exact⟨hi,by simp[hi],mY nd hi⟩
theorem oM (xs:List Int):(cU xs).Nodup:=Ss.sublist List.filter_sublist Q4
theorem wX (xs:List Int):(iN xs).Nodup:=Ss.sublist List.filter_sublist Q4
theorem yu (xs:List Int) (m:Int) (s:Nat):(aY xs m s).length=xs.length+1:=by simp[aY];lia
theorem xQ {xs:List Int}{m:Int}{s:Nat}{x:Int} (h:x∈aY xs m s):x=m\/x∈xs:=by
 unfold aY at h
 rcases N9.mp h with h | h
 ·exact .inr (Qa h)
 ·rcases Nx.mp h with h | h
  ·exact .inl h
  ·exact .inr (Q9 h)
theorem jO {n s:Nat}{o:List Int} (q:Ord n o):Ord (n+1) (aY o n s):=by
 have nm:(n:Int)∉o:=fun z=>by have:=q.hi _ z;lia
 refine⟨by rw[yu,q.len],?_,fun x hx=>?_,fun x hx=>?_⟩
 ·have e:(aY o n s).Perm ((n:Int)::o):=by
   unfold aY
   exact Q0.trans (by rw[Od])
  exact e.nodup_iff.mpr (Of.mpr ⟨nm,q.nd⟩)
 ·rcases xQ hx with rfl | hx
  ·lia
  ·exact q.lo x hx
 ·rcases xQ hx with rfl | hx
  ·lia
  ·have:=q.hi x hx;lia
theorem AW {n s:Nat}{o:List Int} (q:Ord n o) (hs:s<=n):(aY o n s).findIdx? (· == (n:Int))=some s/\(aY o n s).take s++(aY o n s).drop (s+1)=o:=by
 have l:=q.len
 have ls:(o.take s).length=s:=by rw[NH];lia
 have nd:=(jO (s:=s) q).nd
 have hi:s<(aY o n s).length:=by rw[yu];lia
 have e0:(aY o n s)[s]?=some (n:Int):=by
  unfold aY
  rw[Ny (by lia)]
  simp[ls]
 have e:(aY o n s)[s]=(n:Int):=(NV.mp e0).2
 refine⟨by have:=mY nd hi;rw[e] at this;exact this,?_⟩
 unfold aY
 rw[OG (by lia),N2 (by lia),Q1,Pf (by lia),ls]
 simp
theorem xP {n:Nat}{xs:List Int} (q:Ord (n+1) xs):∃o s,Ord n o/\s<=n/\xs=aY o n s:=by
 have l:=q.len
 obtain⟨s,hs,e⟩:=Pq.mp (xN q (j:=(n:Int)) (by lia) (by lia))
 refine⟨xs.take s++xs.drop (s+1),s,?_,by lia,?_⟩
 ·have p:xs.Perm ((n:Int)::(xs.take s++xs.drop (s+1))):=by
   have:xs=xs.take s++(n:Int)::xs.drop (s+1):=by rw[<- e,List.getElem_cons_drop,Od]
   exact(this ▸ Q0:xs.Perm _)
  have nd:=Of.mp (p.nodup_iff.mp q.nd)
  have mm:∀x∈xs.take s++xs.drop (s+1),x∈xs:=fun x hx=>p.symm.subset (ox _ hx)
  refine⟨by have:=p.length_eq;simp at this;simp;lia,nd.2,fun x hx=>q.lo x (mm x hx),fun x hx=>?_⟩
  have h1:=q.hi x (mm x hx)
  have h2:x≠n:=fun z=>nd.1 (z ▸ hx)
  lia
 ·have ls:(xs.take s).length=s:=by rw[NH];lia
  unfold aY
  rw[OG (by lia),N2 (by lia),Q1,Pf (by lia),ls]
  simp only[Nat.sub_self,Sa,Pd]
  rw[<- e,List.getElem_cons_drop,Od]
noncomputable def dB:Nat->Nat->Nat->List Int
 | 0,_,_=>[]
 | 1,_,_=>[0]
 | n+2,k,m=>if m<(k+1)*eN (n+1) k then aY (dB (n+1) k (m / (k+1))) ((n+1:Nat):Int) ((cU (dB (n+1) k (m / (k+1)))).getD (m % (k+1)) 0)
  else aY (dB (n+1) (k - 1) ((m - (k+1)*eN (n+1) k) / (n+2 - k))) ((n+1:Nat):Int) ((iN (dB (n+1) (k - 1) ((m - (k+1)*eN (n+1) k) / (n+2 - k)))).getD ((m - (k+1)*eN (n+1) k) % (n+2 - k)) 0)
noncomputable def jw (n:Nat) (xs:List Int):Nat:=(xs.findIdx? (· == (n:Int))).getD 0
noncomputable def outI (xs:List Int) (s:Nat):List Int:=xs.take s++xs.drop (s+1)
noncomputable def nB:Nat->List Int->Nat
 | 0,_=>0
 | 1,_=>0
 | n+2,xs=>if aJ (outI xs (jw (n+1) xs)) (jw (n+1) xs)=true then nB (n+1) (outI xs (jw (n+1) xs))*(fc xs+1)+idx (cU (outI xs (jw (n+1) xs))) (jw (n+1) xs)
  else (fc xs+1)*eN (n+1) (fc xs)+nB (n+1) (outI xs (jw (n+1) xs))*(n+2 - fc xs)+idx (iN (outI xs (jw (n+1) xs))) (jw (n+1) xs)
theorem rk {n s:Nat}{o:List Int} (q:Ord (n+1) o) (hs:s<=n+1):nB (n+2) (aY o ((n+1:Nat):Int) s)=if aJ o s=true then nB (n+1) o*(fc o+1)+idx (cU o) s else (fc o+2)*eN (n+1) (fc o+1)+nB (n+1) o*(n+1 - fc o)+idx (iN o) s:=by
 obtain⟨e1,e2⟩:=AW q hs
 have e3:jw (n+1) (aY o ((n+1:Nat):Int) s)=s:=by unfold jw;rw[e1];rfl
 have e4:outI (aY o ((n+1:Nat):Int) s) s=o:=e2
 have e5:=ie (m:=((n+1:Nat):Int)) o s (fun x hx=>by have:=q.hi x hx;lia) (by rw[q.len];exact hs)
 rw[nB,e3,e4]
 by_cases z:aJ o s=true
 ·rw[if_pos z,if_pos z,e5,if_pos z,Nat.add_zero]
 ·rw[if_neg z,if_neg z,e5,if_neg z]
  have:n+2 - (fc o+1)=n+1 - fc o:=by lia
  rw[this]
structure DB (n:Nat):Prop where
 fwd:∀k m,k<21->m<eN n k->Ord n (dB n k m)/\fc (dB n k m)=k/\nB n (dB n k m)=m
 bwd:∀xs,Ord n xs->nB n xs<eN n (fc xs)/\dB n (fc xs) (nB n xs)=xs
theorem E5 {n:Nat}{xs:List Int} (q:Ord n xs) (h1:1<=n):fc xs<n:=by
 have:=tm (xs:=xs) (by rw[q.len];exact h1)
 have a:0<(iN xs).length:=List.length_pos_of_mem (a:=0) (N0.mpr ⟨N7.mpr (by lia),by
  have:=q.len
  have z:¬ (0=xs.length):=by lia
  simp[aJ,z]⟩)
 have:=q.len
 lia
theorem Gm:DB 1:=by
 refine⟨fun k m hk hm=>?_,fun xs q=>?_⟩
 ·have:k<1:=JY (by decide) (by decide) hk (by lia)
  have:k=0:=by lia
  subst this
  have:m=0:=by have:eN 1 0=1:=rfl;lia
  subst this
  exact⟨⟨rfl,by decide,by decide,by decide⟩,rfl,rfl⟩
 ·have l:=q.len
  match xs,l with
  | [x],_=>
   have a:=q.lo x (by simp)
   have b:=q.hi x (by simp)
   have:x=0:=by lia
   subst this
   exact⟨by decide +kernel,rfl⟩
theorem Du {n:Nat} (h:n+2<21) (ih:DB (n+1)):DB (n+2):=by
 refine⟨fun k m hk hm=>?_,fun xs q=>?_⟩
 ·have er:eN (n+2) k=(k+1)*eN (n+1) k+(n+2 - k)*(if k=0 then 0 else eN (n+1) (k - 1)):=B4 (n+1) (by lia) (by lia) k hk
  rw[er] at hm
  rw[dB]
  by_cases c:m<(k+1)*eN (n+1) k
  ·rw[if_pos c]
   have c':m / (k+1)<eN (n+1) k:=Nat.div_lt_of_lt_mul c
   obtain⟨o,f,v⟩:=ih.fwd k _ hk c'
   generalize dB (n+1) k (m / (k+1))=O at o f v
   have l:=o.len
   have sl:=kK (xs:=O) (by lia)
   have im:m % (k+1)<(cU O).length:=by rw[sl,f];exact Rg _ (by lia)
   obtain⟨s1,s2⟩:=Bz im
   have gd:(cU O).getD (m % (k+1)) 0=(cU O)[m % (k+1)]:=by simp[im]
   rw[gd]
   refine⟨jO o,?_,?_⟩
   ·rw[ie O _ (fun x hx=>by have:=o.hi x hx;lia) s1,if_pos s2,f];rfl
   ·rw[rk o (by lia),if_pos s2,xh (oM O) im,v,f]
    exact Nat.div_add_mod' m (k+1)
  ·rw[if_neg c]
   have k0:k≠0:=fun z=>by subst z;simp at hm;lia
   rw[if_neg k0] at hm
   generalize hl:m - (k+1)*eN (n+1) k=l
   have lt:l<(n+2 - k)*eN (n+1) (k - 1):=by lia
   have pe:1<=eN (n+1) (k - 1):=by
    by_cases z:eN (n+1) (k - 1)=0
    ·rw[z] at lt;simp at lt
    ·lia
   have c':l / (n+2 - k)<eN (n+1) (k - 1):=Nat.div_lt_of_lt_mul lt
   have kn:k - 1<n+1:=JY (by lia) (by lia) (by lia) pe
   obtain⟨o,f,v⟩:=ih.fwd (k - 1) _ (by lia) c'
   generalize dB (n+1) (k - 1) (l / (n+2 - k))=O at o f v
   have lo:=o.len
   have sl:=tm (xs:=O) (by lia)
   have im:l % (n+2 - k)<(iN O).length:=by
    have:=Rg l (show 0<n+2 - k by lia)
    lia
   obtain⟨s1,s2⟩:=GQ im
   have gd:(iN O).getD (l % (n+2 - k)) 0=(iN O)[l % (n+2 - k)]:=by simp[im]
   rw[gd]
   refine⟨jO o,?_,?_⟩
   ·rw[ie O _ (fun x hx=>by have:=o.hi x hx;lia) s1,if_neg (by rw[s2];decide),f];lia
   ·rw[rk o (by lia),if_neg (by rw[s2];decide),xh (wX O) im,v,f]
    have e1:k - 1+2=k+1:=by lia
    have e2:k - 1+1=k:=by lia
    have e3:n+1 - (k - 1)=n+2 - k:=by lia
    rw[e1,e2,e3]
    have:=Nat.div_add_mod' l (n+2 - k)
    lia
 ·obtain⟨o,s,oo,hs,rfl⟩:=xP q
  obtain⟨r1,r2⟩:=ih.bwd o oo
  have l:=oo.len
  have ol:1<=o.length:=by lia
  have fl:=E5 oo (by lia)
  have fi:=ie (m:=((n+1:Nat):Int)) o s (fun x hx=>by have:=oo.hi x hx;lia) (by lia)
  rw[rk oo hs]
  by_cases z:aJ o s=true
  ·have fi':fc (aY o ((n+1:Nat):Int) s)=fc o:=by rw[fi,if_pos z];rfl
   rw[if_pos z,fi']
   obtain⟨i1,i2,_⟩:=mR (oM o) (s:=s) (N0.mpr ⟨N7.mpr (by lia),z⟩)
   rw[kK ol] at i1
   generalize idx (cU o) s=i at i1 i2
   generalize nB (n+1) o=r at r1 r2
   have er:eN (n+2) (fc o)=(fc o+1)*eN (n+1) (fc o)+(n+2 - fc o)*(if fc o=0 then 0 else eN (n+1) (fc o - 1)):=B4 (n+1) (by lia) (by lia) (fc o) (by lia)
   have b1:r*(fc o+1)+i<(fc o+1)*eN (n+1) (fc o):=by
    have:(r+1)*(fc o+1)<=eN (n+1) (fc o)*(fc o+1):=Nat.mul_le_mul_right _ r1
    rw[Nat.add_mul] at this
    rw[Qq (fc o+1)]
    lia
   refine⟨by lia,?_⟩
   have d1:(r*(fc o+1)+i) / (fc o+1)=r:=by rw[Qq,Nat.mul_add_div (by lia),Nat.div_eq_of_lt i1];rfl
   have d2:(r*(fc o+1)+i) % (fc o+1)=i:=by rw[Qq,Nat.mul_add_mod,Nat.mod_eq_of_lt i1]
   rw[dB,if_pos b1,d1,d2,r2,i2]
  ·have fi':fc (aY o ((n+1:Nat):Int) s)=fc o+1:=by rw[fi,if_neg z]
   rw[if_neg z,fi']
   obtain⟨i1,i2,_⟩:=mR (wX o) (s:=s) (N0.mpr ⟨N7.mpr (by lia),by simpa using z⟩)
   have nl:=tm ol
   generalize idx (iN o) s=i at i1 i2
   generalize nB (n+1) o=r at r1 r2
   have er:eN (n+2) (fc o+1)=(fc o+1+1)*eN (n+1) (fc o+1)+(n+2 - (fc o+1))*(if fc o+1=0 then 0 else eN (n+1) (fc o+1 - 1)):=B4 (n+1) (by lia) (by lia) (fc o+1) (by lia)
   rw[if_neg (by lia),show fc o+1 - 1=fc o from rfl,show n+2 - (fc o+1)=n+1 - fc o by lia] at er
   have b1:r*(n+1 - fc o)+i<(n+1 - fc o)*eN (n+1) (fc o):=by
    have:(r+1)*(n+1 - fc o)<=eN (n+1) (fc o)*(n+1 - fc o):=Nat.mul_le_mul_right _ r1
    rw[Nat.add_mul] at this
    rw[Qq (n+1 - fc o)]
    lia
   have e2:fc o+2=fc o+1+1:=rfl
   rw[e2]
   refine⟨by lia,?_⟩
   have hd:n+2 - (fc o+1)=n+1 - fc o:=by lia
   rw[dB,if_neg (by lia),hd,show fc o+1 - 1=fc o from rfl]
   generalize hK:(fc o+1+1)*eN (n+1) (fc o+1)=Kp
   have e3:Kp+r*(n+1 - fc o)+i - Kp=r*(n+1 - fc o)+i:=by lia
   have d1:(r*(n+1 - fc o)+i) / (n+1 - fc o)=r:=by rw[Qq,Nat.mul_add_div (by lia),Nat.div_eq_of_lt (by lia)];rfl
   have d2:(r*(n+1 - fc o)+i) % (n+1 - fc o)=i:=by rw[Qq,Nat.mul_add_mod,Nat.mod_eq_of_lt (by lia)]
   rw[e3,d1,d2,r2,i2]
theorem Bi:∀n:Nat,1<=n->n<21->DB n
 | 1,_,_=>Gm
 | n+2,_,h=>Du h (Bi (n+1) (by lia) (by lia))
theorem er1 (h:Hh):a_ [.int 1] h=.ok (.frl ((dD 1).map D.int)) h:=by kernel_rfl
theorem er2 (h:Hh):a_ [.int 2] h=.ok (.frl ((dD 2).map D.int)) h:=by kernel_rfl
theorem er3 (h:Hh):a_ [.int 3] h=.ok (.frl ((dD 3).map D.int)) h:=by kernel_rfl
theorem er4 (h:Hh):a_ [.int 4] h=.ok (.frl ((dD 4).map D.int)) h:=by kernel_rfl
theorem er5 (h:Hh):a_ [.int 5] h=.ok (.frl ((dD 5).map D.int)) h:=by kernel_rfl
theorem er6 (h:Hh):a_ [.int 6] h=.ok (.frl ((dD 6).map D.int)) h:=by kernel_rfl
theorem er7 (h:Hh):a_ [.int 7] h=.ok (.frl ((dD 7).map D.int)) h:=by kernel_rfl
theorem er8 (h:Hh):a_ [.int 8] h=.ok (.frl ((dD 8).map D.int)) h:=by kernel_rfl
theorem er9 (h:Hh):a_ [.int 9] h=.ok (.frl ((dD 9).map D.int)) h:=by kernel_rfl
theorem LX (h:Hh):a_ [.int 10] h=.ok (.frl ((dD 10).map D.int)) h:=by kernel_rfl
theorem LK (h:Hh):a_ [.int 11] h=.ok (.frl ((dD 11).map D.int)) h:=by kernel_rfl
theorem K3 (h:Hh):a_ [.int 12] h=.ok (.frl ((dD 12).map D.int)) h:=by kernel_rfl
theorem Le (h:Hh):a_ [.int 13] h=.ok (.frl ((dD 13).map D.int)) h:=by kernel_rfl
theorem MC (h:Hh):a_ [.int 14] h=.ok (.frl ((dD 14).map D.int)) h:=by kernel_rfl
theorem LO (h:Hh):a_ [.int 15] h=.ok (.frl ((dD 15).map D.int)) h:=by kernel_rfl
theorem LC (h:Hh):a_ [.int 16] h=.ok (.frl ((dD 16).map D.int)) h:=by kernel_rfl
theorem Mz (h:Hh):a_ [.int 17] h=.ok (.frl ((dD 17).map D.int)) h:=by kernel_rfl
theorem KW (h:Hh):a_ [.int 18] h=.ok (.frl ((dD 18).map D.int)) h:=by kernel_rfl
theorem K7 (h:Hh):a_ [.int 19] h=.ok (.frl ((dD 19).map D.int)) h:=by kernel_rfl
theorem Mu (h:Hh):a_ [.int 20] h=.ok (.frl ((dD 20).map D.int)) h:=by kernel_rfl
theorem HF (n:Nat) (h1:1<=n) (h2:n<=20) (h:Hh):a_ [.int n] h=.ok (.frl ((dD n).map D.int)) h:=by
 match n,h1,h2 with
 | 1,_,_=>exact er1 h
 | 2,_,_=>exact er2 h
 | 3,_,_=>exact er3 h
 | 4,_,_=>exact er4 h
 | 5,_,_=>exact er5 h
 | 6,_,_=>exact er6 h
 | 7,_,_=>exact er7 h
 | 8,_,_=>exact er8 h
 | 9,_,_=>exact er9 h
 | 10,_,_=>exact LX h
 | 11,_,_=>exact LK h
 | 12,_,_=>exact K3 h
 | 13,_,_=>exact Le h
 | 14,_,_=>exact MC h
 | 15,_,_=>exact LO h
 | 16,_,_=>exact LC h
 | 17,_,_=>exact Mz h
 | 18,_,_=>exact KW h
 | 19,_,_=>exact K7 h
 | 20,_,_=>exact Mu h
 | n+21,_,h2=>exact absurd h2 (by lia)
theorem Jg {n k:Nat} (h:n<21) (h1:1<=n) (hk:k<21):eN n k<=10 ^ 20:=by
 have a:=((gQ n h h1).2 k hk).2.2.1
 have b:=((gQ n h h1).2 k hk).2.1
 unfold eN;lia
theorem JM {n k:Nat} (h:n<21) (h1:1<=n) (hk:k<21):sml (eN n k:Int)=true:=by
 have:=Jg h h1 hk
 exact eD (by lia) (by lia)
theorem Ef {n k:Nat}{h:Hh} (h1:1<=n) (h2:n<=20) (hk:k<=20):dw [.int n,.int k] h=.ok (.int (eN n k:Nat)) h:=by
 obtain⟨ln,f⟩:=gQ n (by lia) h1
 obtain⟨a,b,c,d⟩:=f k (by lia)
 have c1:(1:Int)<=n/\(n:Int)<=30:=by lia
 have c2:(0:Int)<=k/\(k:Int)<=30:=by lia
 have r:=HF n h1 h2 h
 rw[JB (by lia) h1 (by lia)] at a
 generalize eN n k=E at a ⊢
 generalize dD n=T at *
 simp[dw,bI,b9,c1,c2,r,qk,a]
theorem GC {n k:Nat}{h:Hh} (h1:1<=n) (h2:n<=20) (hk:k<=20):bM [.int ((n+1:Nat):Int),.int k] h=.ok (.int (((k+1)*eN n k:Nat):Int)) h:=by
 have q:=Ef (h:=h) h1 h2 hk
 have e:((n+1:Nat):Int) - 1=n:=by lia
 have s1:sml ((k:Int)+1)=true:=eD (by lia) (by lia)
 have s2:sml (eN n k:Int)=true:=JM (by lia) h1 (by lia)
 generalize eN n k=E at q s2 ⊢
 simp[bM,b9,e,q,s1,s2]
noncomputable def dX (xs:List Int) (k:Nat):List Int:=xs.filter fun x=>decide (x<=(k:Int))
noncomputable def ixI (xs:List Int) (k:Nat):Nat:=(dX xs k).findIdx (· == (k:Int))
noncomputable def fF (xs:List Int):List Int:=(Nj xs.length).map fun(k:Nat)=>(ixI xs k:Int)
noncomputable def iu (xs:List Int) (p:Nat) (v:Int):List Int:=xs.take p++v::xs.drop p
noncomputable def Bq (cs:List Int) (k:Nat):List Int:=(Nj k).foldl (fun a (i:Nat)=>iu a (gI cs i).toNat (i:Int)) []
noncomputable def kD (cs:List Int):List Int:=Bq cs cs.length
theorem GI (cs:List Int) (k:Nat):Bq cs (k+1)=iu (Bq cs k) (gI cs k).toNat (k:Int):=by unfold Bq;rw[Pz,List.foldl_append];rfl
theorem jb (xs:List Int) (p:Nat) (v:Int):(iu xs p v).Perm (v::xs):=by
 unfold iu
 have:=Q0 (a:=v) (l₁:=xs.take p) (l₂:=xs.drop p)
 rwa [Od] at this
theorem qM {xs:List Int}{p k:Nat}{v:Int} (h:(k:Int)<v):dX (iu xs p v) k=dX xs k:=by
 unfold dX iu
 rw[QA,List.filter_cons_of_neg (by simp;lia),<- QA,Od]
theorem uv {xs:List Int}{k:Nat} (h:∀x∈xs,x<=(k:Int)):dX xs k=xs:=Ql.mpr fun x hx=>by simpa using h x hx
theorem BW {as bs:List Int}{v:Int} (hv:v∉as):(as++v::bs).findIdx (· == v)=as.length:=by
 induction as with
 | nil=>simp[QN]
 | cons a as ih=>
  have b:(a == v)=false:=by
   have:a≠v:=fun z=>hv (z ▸ Nt)
   simpa using this
  rw[RM,QN,b]
  simp[ih (fun h=>hv (ox _ h))]
theorem zF {xs:List Int}{p:Nat}{v:Int} (hp:p<=xs.length) (hv:v∉xs):(iu xs p v).findIdx (· == v)=p:=by
 have hl:(xs.take p).length=p:=by rw[NH];lia
 unfold iu
 rw[BW (fun h=>hv (Qa h)),hl]
structure Cod (cs:List Int):Prop where
 KR:1<=cs.length
 Ky:cs.length<=20
 rng:∀i,i<cs.length->0<=gI cs i/\gI cs i<=i
theorem gU {v:Int}:∀(l:List Int),l.Nodup->v∈l->iu (l.filter fun x=>decide (x≠v)) (l.findIdx (· == v)) v=l
 | [],_,h=>by cases h
 | a::l,nd,h=>by
  obtain⟨h1,h2⟩:=Of.mp nd
  by_cases e:a=v
  ·subst e
   have f:l.filter (fun x=>decide (x≠a))=l:=Ql.mpr fun x hx=>by
    have:x≠a:=fun z=>h1 (z ▸ hx)
    simpa using this
   rw[List.filter_cons_of_neg (by simp),f,QN]
   simp[iu]
  ·have hm:v∈l:=by
    rcases Nx.mp h with z | z
    ·exact absurd z.symm e
    ·exact z
   have ih:=gU l h2 hm
   rw[List.filter_cons_of_pos (by simpa using e),QN]
   have b:(a == v)=false:=by simpa using e
   rw[b]
   show iu (a::_) (l.findIdx (· == v)+1) v=_
   unfold iu at ih ⊢
   rw[List.take_succ_cons,List.drop_succ_cons,RM,ih]
noncomputable def Bp (xs:List Int) (k:Nat):List Int:=xs.filter fun x=>decide (x<(k:Int))
theorem Kz {xs:List Int} (k:Nat):Bp xs (k+1)=dX xs k:=QM fun x _=>by
 have:(x<((k+1:Nat):Int))↔(x<=(k:Int)):=by lia
 rw[PZ,decide_eq_true_eq,decide_eq_true_eq]
 exact this
theorem Gs {xs:List Int} (k:Nat):(dX xs k).filter (fun x=>decide (x≠(k:Int)))=Bp xs k:=by
 unfold dX Bp
 rw[List.filter_filter]
 refine QM fun x _=>?_
 rw[PZ]
 simp
 lia
theorem u7 {n:Nat}{xs:List Int} (o:Ord n xs){k:Nat} (hk:k<n):(k:Int)∈dX xs k:=N0.mpr ⟨xN o (by lia) (by lia),by simp⟩
theorem Bn {xs:List Int}{k:Nat} (h:k<xs.length):gI (fF xs) k=(ixI xs k:Int):=by rw[iV (by simpa [fF] using h)];simp[fF]
theorem x8 {n:Nat}{xs:List Int} (o:Ord n xs):∀k,k<=n->Bq (fF xs) k=Bp xs k
 | 0,_=>by
  have:Bp xs 0=[]:=List.filter_eq_nil_iff.mpr fun x hx=>by have:=o.lo x hx;simp;lia
  rw[this];rfl
 | k+1,h=>by
  rw[GI,x8 o k (by lia),Bn (by rw[o.len];lia),P2,Kz,<- Gs]
  exact gU _ (o.nd.filter _) (u7 o (by lia))
theorem Et {n:Nat}{xs:List Int} (o:Ord n xs):kD (fF xs)=xs:=by
 have hl:(fF xs).length=n:=by simp[fF,o.len]
 unfold kD
 rw[hl,x8 o n (Ni _)]
 exact Ql.mpr fun x hx=>by simpa using o.hi x hx
theorem EY {n:Nat}{xs:List Int} (o:Ord n xs){k:Nat} (hk:k<n):ixI xs k<(dX xs k).length:=List.findIdx_lt_length_of_exists ⟨_,u7 o hk,by simp⟩
theorem B6 {n:Nat}{xs:List Int} (o:Ord n xs){k:Nat}:(dX xs k).length<=k+1:=jA (k+1) _ (o.nd.filter _) fun x hx=>by
 have:=N0.mp hx
 have h2:x<=(k:Int):=by simpa using this.2
 exact⟨o.lo x this.1,by lia⟩
theorem B9 {n:Nat}{xs:List Int} (o:Ord n xs) (h1:1<=n) (h2:n<=20):Cod (fF xs):=by
 have hl:(fF xs).length=n:=by simp[fF,o.len]
 refine⟨by lia,by lia,fun i hi=>?_⟩
 rw[Bn (by rw[o.len];lia)]
 have:=EY o (k:=i) (by lia)
 have:=B6 o (k:=i)
 lia
theorem zT {xs:List Int}{k:Nat}{h:Hh}:cM (aB asB (aq dLe (af 0) (af 1))) (af 0) (fun x=>[some x,some (.int k)]) (xs.map D.int) h=.ok ((dX xs k).map D.int) h:=by
 rw[comp_map D.int (fun x=>decide (x<=(k:Int))) D.int xs (fun x hx=>⟨by simp,fun _=>by simp⟩)]
 rfl
theorem AG {xs:List Int}{k:Nat}{h:Hh} (hl:xs.length<=1000):bD [.tup (xs.map D.int),.int k] h=.ok (.tup ((dX xs k).map D.int)) h:=by
 have z:xs.length<=1000000:=by lia
 have q:=zT (xs:=xs) (k:=k) (h:=h)
 simp[bD,b9,z,q]
theorem Ek {n:Nat}{xs:List Int} (o:Ord n xs){k:Nat} (hk:k<n):(dX xs k).findIdx? (· == (k:Int))=some (ixI xs k):=List.findIdx?_eq_some_iff_findIdx_eq.mpr ⟨EY o hk,rfl⟩
theorem j9 {ns:List Int}{i:Int}{j:Nat}{h:Hh} (e:ns.findIdx? (· == i)=some j):dq (.tup (ns.map D.int)) [.int i] h=.ok (.int (j:Nat)) h:=by
 delta dq;dsimp only;rw[fI];dsimp only;rw[e]
theorem ud {n:Nat}{xs:List Int}{h:Hh} (o:Ord n xs) (h1:1<=n) (h2:n<=20) (w:Wf h):bV [.tup (xs.map D.int)] h=.ok (.tup ((fF xs).map D.int)) h:=by
 have hl:=o.len
 have z:xs.length<=1000000:=by lia
 have q:cM tt1 (gH dq (ah bD (ae (af 1) (ae (af 0) aj))) (ae (af 0) aj)) (fun x=>[some x,some (.tup (xs.map D.int))]) (b7 0 xs.length) h=.ok ((fF xs).map D.int) h:=by
  rw[qu (fun(k:Nat)=>D.int (ixI xs k:Int))]
  ·simp[fF]
  ·intro k hk
   have u:=AG (xs:=xs) (k:=k) (h:=h) (by lia)
   have f:=j9 (h:=h) (Ek o (k:=k) (by lia))
   show((ah bD (ae (af 1) (ae (af 0) aj))) [some (.int (k:Nat)),some (.tup (xs.map D.int))] h).bind _=_
   simp[u,isT,f]
 simp[bV,b9,fD o h1 h2 w,z,q]
theorem Dz (xs:List Int) (k:Nat):(dX xs k).length<=xs.length:=List.length_filter_le _ _
noncomputable def OBB:MS:=(cK (g_ gZ (af 1) (ae (af 3) (ae (af 2) aj))))
theorem Ez {cs:List Int}{h:Hh} (c:Cod cs) (d0:Option D):∃a b,fq (gT2 2 3) OBB (gO (cs.map D.int)) [d0,some (.ref h.length),none,none] (h++[.lst []])=.ok (.nx [d0,some (.ref h.length),a,b]) (h++[.lst ((kD cs).map D.int)]):=by
 rw[qE]
 obtain⟨q,_⟩:=xS (σ:=List Int × Option D × Option D) (tg:=gT2 2 3) (body:=OBB) (fun(i:Nat)=>D.tup [.int i,.int (gI cs i)]) cs.length (fun s=>[d0,some (.ref h.length),s.2.1,s.2.2]) (fun s=>h++[.lst (s.1.map D.int)]) (fun s i=>(iu s.1 (gI cs i).toNat (i:Int),some (.int i),some (.int (gI cs i)))) (fun i s=>s.1.length=i) ([],none,none) rfl (fun i s hi hs=>by
  have r:=c.rng i hi
  have l2:=c.Ky
  have q2:=Bm (n:=h.length) (i:=gI cs i) (d:=.int (i:Int)) (h:=h++[.lst (s.1.map D.int)]) i_ r.1 (by rw[Nw];lia) (by rw[Nw];lia)
  rw[kx,<- List.map_take,<- List.map_drop,<- ND,<- Ou] at q2
  refine⟨by rw[(jb _ _ _).length_eq,N8,hs],.inl ?_⟩
  have q2':gZ (.ref h.length) [.int (gI cs i),.int (i:Int)] (h++[.lst (s.1.map D.int)])=.ok .non (h++[.lst ((iu s.1 (gI cs i).toNat (i:Int)).map D.int)]):=q2
  generalize iu s.1 (gI cs i).toNat (i:Int)=NL at q2'
  simp[OBB,q2'])
 have fo:∀(l:List Nat) (a:List Int) (u v:Option D),(l.foldl (fun(s:List Int × Option D × Option D) (i:Nat)=>(iu s.1 (gI cs i).toNat (i:Int),some (D.int i),some (D.int (gI cs i)))) (a,u,v)).1=l.foldl (fun a (i:Nat)=>iu a (gI cs i).toNat (i:Int)) a:=by
  intro l
  induction l with
  | nil=>intro a u v;rfl
  | cons x l ih=>intro a u v;rw[Oz,Oz];exact ih _ _ _
 have e:=fo (Nj cs.length) [] none none
 change _=kD cs at e
 exact⟨_,_,by rw[e] at q;exact q⟩
theorem rh {o:List Int}{s:Nat} (h1:1<=o.length) (hs:s<=o.length):(bJ o).any (· == (s:Int))=aJ o s:=by
 rw[<- dR h1,Sz]
 cases z:aJ o s with
 | true=>exact Qh.mpr ⟨s,N0.mpr ⟨N7.mpr (by lia),z⟩,by simp⟩
 | false=>
  refine List.any_eq_false.mpr fun i hi=>?_
  have:=(N0.mp hi).2
  simp only[Function.comp_apply,beq_iff_eq]
  intro e
  have:i=s:=by lia
  subst this
  simp_all
theorem qU {l:List Nat}{s:Nat}:(l.map fun(i:Nat)=>(i:Int)).findIdx? (· == (s:Int))=l.findIdx? (· == s):=by
 have e:((fun x:Int=>x == (s:Int)) ∘ fun(i:Nat)=>(i:Int))=fun i:Nat=>i == s:=by
  funext i
  show((i:Int) == (s:Int))=(i == s)
  by_cases z:i=s
  ·subst z;simp
  ·have:¬ ((i:Int)=(s:Int)):=by lia
   rw[beq_eq_false_iff_ne.mpr z,beq_eq_false_iff_ne.mpr this]
 rw[List.findIdx?_map,e]
theorem wu {o:List Int}{s:Nat} (h1:1<=o.length) (hs:s<=o.length) (z:aJ o s=true):(bJ o).findIdx? (· == (s:Int))=some (idx (cU o) s):=by
 rw[<- dR h1,qU]
 exact(mR (oM o) (N0.mpr ⟨N7.mpr (by lia),z⟩)).2.2
theorem AO {n:Nat}{o:List Int}{s:Nat} (hl:o.length=n) (hs:s<=o.length) (z:aJ o s=false):(((Nj (n+1)).filter fun i=>!aJ o i).map fun(i:Nat)=>(i:Int)).findIdx? (· == (s:Int))=some (idx (iN o) s):=by
 subst hl
 rw[qU]
 exact(mR (wX o) (N0.mpr ⟨N7.mpr (by lia),by simpa using z⟩)).2.2
theorem ye {f:D->List D->Hh->R D}{o:ME}{a:MA}{env:En}{h:Hh}:gH f o a env h=(o env h).bind fun x h1=>if isT x=true then (a env h1).bind fun xs h2=>f x xs h2 else .bad:=rfl
theorem yL {ds:List D}:isT (.tup ds)=true:=rfl
theorem jB (xs:List Int):(cA xs).length=fc xs:=by unfold cA;rw[Nw,ik]
theorem Bt {h:Hh} (w:Wf h):∀(n d:Nat) (xs:List Int),Ord n xs->1<=n->n<=d->n<=20->aM d [.tup (xs.map D.int)] h=.ok (.int (nB n xs:Nat)) h
 | 0,_,_,_,h1,_,_=>by lia
 | 1,d+1,xs,q,_,_,_=>by
  have l:=q.len
  have f:=jH (xs:=xs) (h:=h) (by lia) (by lia)
  rw[eh]
  simp[b9,fD q (by decide) (by decide) w,f,l,nB]
 | n+2,d+1,xs,q,_,hd,hn=>by
  have l:=q.len
  have f:=jH (xs:=xs) (h:=h) (by lia) (by lia)
  have fl:=jB xs
  have on:=fD (h:=h) q (by lia) (by lia) w
  obtain⟨o,s,oo,hs,rfl⟩:=xP q
  have lo:=oo.len
  have ol:1<=o.length:=by lia
  have fcl:=E5 oo (by lia)
  have fi:=ie (m:=((n+1:Nat):Int)) o s (fun x hx=>by have:=oo.hi x hx;lia) (by lia)
  obtain⟨e1,e2⟩:=AW oo hs
  have ih:=Bt w (n+1) d o oo (by lia) (by lia) (by lia)
  have st:=rS (h:=h) oo (by lia) (by lia) w
  have nw:=EG (h:=h) oo (by lia) (by lia) w
  have ix:=j9 (h:=h) e1
  have sa:=rh (o:=o) (s:=s) ol (by lia)
  have n1:¬ (((n+2:Nat):Int)=1):=by lia
  have n2:((n+2:Nat):Int) - 1=((n+1:Nat):Int):=by lia
  have s2:(s:Int)+1=((s+1:Nat):Int):=by lia
  have lX:((aY o ((n+1:Nat):Int) s).map D.int).length=n+2:=by rw[Nw];exact l
  have lF:((cA (aY o ((n+1:Nat):Int) s)).map D.int).length=fc (aY o ((n+1:Nat):Int) s):=by rw[Nw];exact fl
  have cc:cutD ((aY o ((n+1:Nat):Int) s).map D.int) none (some (s:Int))++cutD ((aY o ((n+1:Nat):Int) s).map D.int) (some ((s+1:Nat):Int)) none=o.map D.int:=by
   rw[j8,j8,ya,qZ,<- Ou,e2]
  have cl:(cutD ((aY o ((n+1:Nat):Int) s).map D.int) none (some (s:Int))).length+(cutD ((aY o ((n+1:Nat):Int) s).map D.int) (some ((s+1:Nat):Int)) none).length<=1000000:=by
   rw[<- NY,cc,Nw];lia
  have nb:=rk oo hs
  have r1:=((Bi (n+1) (by lia) (by lia)).bwd o oo).1
  have eL:=Jg (n:=n+1) (k:=fc o) (by lia) (by lia) (by lia)
  have sr:sml (nB (n+1) o:Int)=true:=eD (by lia) (by lia)
  rw[eh]
  cases z:aJ o s with
  | true=>
   rw[z] at fi sa
   replace fi:fc (aY o ((n+1:Nat):Int) s)=fc o:=fi
   rw[if_pos z] at nb
   have fd:=j9 (h:=h) (wu ol (by lia) z)
   rw[nb]
   rw[fi] at lF
   have k1:(fc o:Int)+1=((fc o+1:Nat):Int):=by lia
   have sk:sml ((fc o+1:Nat):Int)=true:=eD (by lia) (by lia)
   generalize nB (n+1) o=RR at *
   generalize idx (cU o) s=ID at *
   generalize (cA (aY o ((n+1:Nat):Int) s)).map D.int=FD at *
   generalize (aY o ((n+1:Nat):Int) s).map D.int=XD at *
   simp[-Int.natCast_add,-Int.natCast_mul,b9,ye,yL,on,f,lX,lF,n1,n2,ix,s2,cl,cc,st,sa,ih,fd,k1,sk,sr]
   simp
  | false=>
   rw[z] at fi sa
   rw[if_neg (by decide)] at fi
   rw[if_neg (by rw[z];decide)] at nb
   have fd:=j9 (h:=h) (AO lo (by lia) z)
   rw[nb]
   rw[fi] at lF
   have kp:=GC (n:=n+1) (k:=fc o+1) (h:=h) (by lia) (by lia) (by lia)
   rw[show n+1+1=n+2 from rfl,show fc o+1+1=fc o+2 from rfl] at kp
   have e3:((n+2:Nat):Int) - ((fc o+1:Nat):Int)=((n+1 - fc o:Nat):Int):=by lia
   have sk:sml ((n+1 - fc o:Nat):Int)=true:=eD (by lia) (by lia)
   generalize (((Nj (n+1+1)).filter fun i=>!aJ o i).map fun(i:Nat)=>(i:Int)).map D.int=NW at nw fd
   generalize (fc o+2)*eN (n+1) (fc o+1)=KP at *
   generalize nB (n+1) o=RR at *
   generalize idx (iN o) s=ID at *
   generalize (cA (aY o ((n+1:Nat):Int) s)).map D.int=FD at *
   generalize (aY o ((n+1:Nat):Int) s).map D.int=XD at *
   simp[-Int.natCast_add,-Int.natCast_mul,b9,ye,yL,on,f,lX,lF,n1,n2,ix,s2,cl,cc,st,sa,ih,nw,kp,fd,e3,sk,sr]
   simp
noncomputable def cH (xs:List Int):List Int:=(Nj xs.length).map fun(k:Nat)=>((cA (dX xs k)).length:Int)
theorem Iv {xs:List Int}{h:Hh} (hl:xs.length<=1000):bu [.tup (xs.map D.int)] h=.ok (.tup ((cA xs).map D.int)) h:=by
 have z1:((xs.length:Int) - 1).natAbs<=1000000:=by lia
 have z2:((xs.length:Int) - 1).toNat=xs.length - 1:=by lia
 have z3:xs.length - 1<=1000000:=by lia
 have q:=qA (xs:=xs) (h:=h) (d:=.tup (xs.map D.int)) (fun i=>ET)
 simp[bu,b9,z1,z2,z3,q]
theorem zO {xs:List Int}{h:Hh} (hl:xs.length<=1000):cM tt1 (ah bH (ae (ah bu (ae (ah bD (ae (af 1) (ae (af 0) aj))) aj)) aj)) (fun x=>[some x,some (.tup (xs.map D.int))]) (b7 0 xs.length) h=.ok ((cH xs).map D.int) h:=by
 rw[qu (fun(k:Nat)=>D.int ((cA (dX xs k)).length:Int))]
 ·simp[cH]
 ·intro k hk
  have:=Dz xs k
  simp[AG hl,Iv (xs:=dX xs k) (by lia)]
theorem nz {n:Nat}{xs:List Int}{h:Hh} (o:Ord n xs) (h1:1<=n) (h2:n<=20) (w:Wf h):bO [.tup (xs.map D.int)] h=.ok (.tup ((cH xs).map D.int)) h:=by
 have hl:=o.len
 have z:xs.length<=1000000:=by lia
 have q:=zO (xs:=xs) (h:=h) (by lia)
 simp[bO,b9,fD o h1 h2 w,z,q]
theorem jc (k:Nat) (h:Hh):∀xs ys:List Int,eqL (eqD (k+1) h) (xs.map D.int) (ys.map D.int)=some (decide (xs=ys))
 | [],[]=>rfl
 | [],y::ys=>rfl
 | x::xs,[]=>rfl
 | x::xs,y::ys=>by
  have ih:=jc k h xs ys
  have e1:eqD (k+1) h (.int x) (.int y)=some (x == y):=rfl
  simp only[ND,eqL,e1,ih]
  by_cases a:x=y<;>by_cases b:xs=ys<;>simp[a,b]
noncomputable abbrev CT:=List (List Int × Int)
noncomputable def sd:CT->List Int->Option Int
 | [],_=>none
 | p::r,k=>if p.1=k then some p.2 else sd r k
noncomputable def DQ (C:CT) (k:List Int) (v:Int):CT:=if (C.any fun kv=>decide (kv.1=k))=true then C.map (fun kv=>if kv.1=k then (kv.1,v) else kv) else C++[(k,v)]
noncomputable def eK (k:List Int):List Key:=k.map SE
noncomputable def encC (C:CT):List (List Key × D):=C.map fun p=>(eK p.1,.int p.2)
theorem sR:∀{a b:List Int},eK a=eK b->a=b
 | [],[],_=>rfl
 | [],_::_,h=>by simp[eK] at h
 | _::_,[],h=>by simp[eK] at h
 | a::r,b::t,h=>by
  unfold eK at h
  rw[ND,ND] at h
  obtain⟨h1,h2⟩:=List.cons.inj h
  cases h1
  rw[sR h2]
theorem FK (a b):decide (eK a=eK b)=decide (a=b):=by
 by_cases c:a=b
 ·grind
 ·have:¬ eK a=eK b:=fun z=>c (sR z)
  simp_all
theorem nK (k:List Int):∀C:CT,tF (encC C) (eK k)=(sd C k).map D.int
 | []=>rfl
 | p::r=>by
  show(if eK p.1=eK k then some (D.int p.2) else tF (encC r) (eK k))=(if p.1=k then some p.2 else sd r k).map D.int
  by_cases c:p.1=k
  ·simp_all
  ·rw[if_neg c,if_neg (fun z=>c (sR z)),nK k r]
theorem Cc (C) (k) (v):AB (encC C) (eK k) (.int v)=encC (DQ C k v):=by
 have a:((encC C).any fun kv=>decide (kv.1=eK k))=C.any fun kv=>decide (kv.1=k):=by
  unfold encC
  rw[Sz]
  congr 1
  funext p
  exact FK p.1 k
 unfold AB DQ
 rw[a]
 by_cases c:(C.any fun kv=>decide (kv.1=k))=true
 ·rw[if_pos c,if_pos c]
  unfold encC
  rw[O1,O1]
  refine OH fun p _=>?_
  show(if eK p.1=eK k then (eK p.1,D.int v) else (eK p.1,.int p.2))=((eK (if p.1=k then (p.1,v) else p).1),D.int (if p.1=k then (p.1,v) else p).2)
  by_cases z:p.1=k
  ·simp_all
  ·rw[if_neg z,if_neg (fun q=>z (sR q))]
 ·rw[if_neg c,if_neg c]
  unfold encC
  simp
theorem qv:∀o:List Int,oH (o.map D.int)=some (eK o)
 | []=>rfl
 | a::r=>by
  have:=qv r
  rw[ND]
  unfold oH
  rw[this];rfl
theorem oh (o):uJ (.tup (o.map D.int))=some (eK o):=qv o
theorem A_ (o):tupK (eK o)=.tup (o.map D.int):=by
 unfold tupK eK
 rw[O1];rfl
noncomputable def tpI (b:List Int):D:=.tup (b.map D.int)
noncomputable def stl (xs:List Int):List Nat:=((Nj (xs.length - 1)).filter fun i=>decide (xs.getD (i+1) 0<xs.getD i 0)).map (· + 1)++[xs.length]
noncomputable def nws (xs:List Int):List Nat:=(Nj xs.length).filter fun i=>!(stl xs).contains i
noncomputable def LS:Nat->Nat->List (List Int)
 | 0,_=>[]
 | 1,0=>[[0]]
 | 1,_+1=>[]
 | n+2,0=>(LS (n+1) 0).flatMap fun o=>(stl o).map (aY o ((n+1:Nat):Int))
 | n+2,k+1=>((LS (n+1) (k+1)).flatMap fun o=>(stl o).map (aY o ((n+1:Nat):Int)))++(LS (n+1) k).flatMap fun o=>(nws o).map (aY o ((n+1:Nat):Int))
noncomputable def LQ (n:Nat) (b:List Int):List (List Int):=((Nj n).filter fun(i:Nat)=>!(b.any (· == (i:Int)))).map fun(i:Nat)=>b++[(i:Int)]
noncomputable def allI (n:Nat):Nat->List (List Int)
 | 0=>[[]]
 | k+1=>(allI n k).flatMap (LQ n)
noncomputable def SL (n k:Nat):List (List Int):=(allI n n).filter fun o=>(stl o).length == k+1
noncomputable def B0:MS:=(jF qK (af 7) (ah bO (ae (af 8) aj)) (aq (aW ay) (rl (af 7) (ah bO (ae (af 8) aj)) (cC (.int 0))) (cC (.int 1))))
noncomputable def B1:MS:=(bR (gy (aB asB (aq dNe (ah dH (ae (af 9) aj)) (aq qr (af 7) (af 9)))) (aB asB (aq dNe (aq dIx (af 9) (cUn wW (cC (.int 1)))) (af 4)))) (aU (cC (.bl false))) bc)
noncomputable def hp (H:Hh) (C:CT):Hh:=H++[.dit (encC C)]
theorem EO {H:Hh}{C:CT} (w:Wf H):Wf (hp H C):=w.app (by
 show bT _ ((encC C).map (·.2))=true
 unfold encC
 rw[O1]
 exact qQ fun p=>rfl)
theorem wN {H:Hh}{C:CT}:gc (hp H C) H.length=some (encC C):=by
 unfold hp gc;rw[Ny (Ni _)];simp
noncomputable def upC (C:CT) (p:List Int):CT:=DQ C p ((sd C p).getD 0+1)
theorem Df (C:CT) (p:List Int):(upC C p).length<=C.length+1:=by
 unfold upC DQ;split<;>simp
theorem Jn {n:Nat}{xs:List Int}{C:CT}{H:Hh}{d0 d1 d2 d3 d4 d5 d6 d9 d10 d11 d12 d13 d14:Option D} (o:Ord n xs) (h1:1<=n) (hn:n<=20) (hC:C.length<=10000) (w:Wf H) :
  B0 [d0,d1,d2,d3,d4,d5,d6,some (.ref H.length),some (tpI xs),d9,d10,d11,d12,d13,d14] (hp H C)=.ok (.nx [d0,d1,d2,d3,d4,d5,d6,some (.ref H.length),some (tpI xs),d9,d10,d11,d12,d13,d14]) (hp H (upC C (cH xs))):=by
 have pa:=nz (h:=hp H C) o h1 hn (EO w)
 have d1:=wN (H:=H) (C:=C)
 have gt:tL (.ref H.length) (.tup ((cH xs).map D.int)) (.int 0) (hp H C)=.ok (.int ((sd C (cH xs)).getD 0)) (hp H C):=by
  unfold tL
  rw[oh]
  dsimp only
  rw[d1]
  dsimp only
  rw[nK]
  cases sd C (cH xs)<;>rfl
 have pu:qK (.ref H.length) (.tup ((cH xs).map D.int)) (.int ((sd C (cH xs)).getD 0+1)) (hp H C)=.ok () (hp H (upC C (cH xs))):=by
  unfold qK
  rw[oh]
  dsimp only
  rw[d1]
  dsimp only
  rw[if_pos (by unfold encC;rw[Nw];lia),Cc]
  unfold hp
  rw[kx]
  rfl
 unfold tpI
 generalize hp H (upC C (cH xs))=H2 at *
 generalize hp H C=H0 at *
 simp[B0,rl,pa,d1,gt,pu]
theorem xJ {n:Nat}{H:Hh}{d0 d1 d2 d3 d4 d5 d6 d9 d10 d11 d12 d13 d14:Option D} (h1:1<=n) (hn:n<=20) (w:Wf H):∀(L:List (List Int)) (C:CT) (y8:Option D),(∀o∈L,Ord n o)->C.length+L.length<=10000 →
  ∃z8,fq (gN 8) B0 (L.map tpI) [d0,d1,d2,d3,d4,d5,d6,some (.ref H.length),y8,d9,d10,d11,d12,d13,d14] (hp H C)=.ok (.nx [d0,d1,d2,d3,d4,d5,d6,some (.ref H.length),z8,d9,d10,d11,d12,d13,d14]) (hp H (L.foldl (fun C o=>upC C (cH o)) C))
 | [],C,y8,_,_=>⟨y8,rfl⟩
 | o::L,C,y8,k,hl=>by
  have:=Df C (cH o)
  rw[N8] at hl
  obtain⟨z8,q⟩:=xJ (d0:=d0) (d1:=d1) (d2:=d2) (d3:=d3) (d4:=d4) (d5:=d5) (d6:=d6) (d9:=d9) (d10:=d10) (d11:=d11) (d12:=d12) (d13:=d13) (d14:=d14) h1 hn w L (upC C (cH o)) (some (tpI o)) (fun r hr=>k r (ox _ hr)) (by lia)
  refine⟨z8,?_⟩
  rw[ND,vv]
  simp only[Ht,f_,Th,Jn (k o Nt) h1 hn (show C.length<=10000 by lia) w,E8,q]
  rfl
theorem AD {C:CT}{H:Hh}:jM ay [.ref H.length] (hp H C)=.ok (.frl (C.map fun p=>tpI p.1)) (hp H C):=by
 have d1:=wN (H:=H) (C:=C)
 unfold jM
 dsimp only
 rw[d1]
 dsimp only
 have:((encC C).map fun kv=>tupK kv.1)=C.map fun p=>tpI p.1:=by
  unfold encC
  rw[O1]
  exact OH fun p _=>A_ p.1
 rw[this];rfl
theorem xZ {k:Nat}{C:CT}{H:Hh}{d0 d1 d2 d3 d5 d6 d8 d10 d11 d12 d13 d14:Option D}:∀(M:CT) (y9:Option D),(∀p∈M,dH [tpI p.1] (hp H C)=.ok (.int p.2) (hp H C)/\dIx (tpI p.1) (.int (-1)) (hp H C)=.ok (.int k) (hp H C)/\sd C p.1=some p.2) →
  ∃z9,fq (gN 9) B1 (M.map fun p=>tpI p.1) [d0,d1,d2,d3,some (.int k),d5,d6,some (.ref H.length),d8,y9,d10,d11,d12,d13,d14] (hp H C)=.ok (.nx [d0,d1,d2,d3,some (.int k),d5,d6,some (.ref H.length),d8,z9,d10,d11,d12,d13,d14]) (hp H C)
 | [],y9,_=>⟨y9,rfl⟩
 | p::M,y9,kk=>by
  obtain⟨z9,q⟩:=xZ (d0:=d0) (d1:=d1) (d2:=d2) (d3:=d3) (d5:=d5) (d6:=d6) (d8:=d8) (d10:=d10) (d11:=d11) (d12:=d12) (d13:=d13) (d14:=d14) M (some (tpI p.1)) (fun r hr=>kk r (ox _ hr))
  obtain⟨e1,e2,e3⟩:=kk p Nt
  have gt:qr (.ref H.length) (tpI p.1) (hp H C)=.ok (.int p.2) (hp H C):=by
   unfold qr tpI
   rw[oh]
   dsimp only
   rw[wN]
   dsimp only
   rw[nK,e3]
   rfl
  have b:B1 [d0,d1,d2,d3,some (.int k),d5,d6,some (.ref H.length),d8,some (tpI p.1),d10,d11,d12,d13,d14] (hp H C)=.ok (.nx [d0,d1,d2,d3,some (.int k),d5,d6,some (.ref H.length),d8,some (tpI p.1),d10,d11,d12,d13,d14]) (hp H C):=by
   generalize tpI p.1=T at *
   generalize hp H C=HH at *
   simp[B1,e1,gt,e2]
  refine⟨z9,?_⟩
  rw[ND,vv]
  simp only[Ht,f_,Th,b,E8,q]
noncomputable def cq (n k:Nat):CT:=(LS n k).foldl (fun C o=>upC C (cH o)) []
noncomputable def HE (n:Nat) (xs:List Int):Bool:=(xs.length == n)&&(decide xs.Nodup&&xs.all fun x=>decide (0<=x/\x<(n:Int)))
theorem t6 {n:Nat}{xs:List Int} (h:HE n xs=true):Ord n xs:=by
 unfold HE at h
 simp only[NQ,beq_iff_eq,decide_eq_true_eq,NU] at h
 exact⟨h.1,h.2.1,fun x hx=>(h.2.2 x hx).1,fun x hx=>(h.2.2 x hx).2⟩
structure EA (n k N:Nat):Prop where
 len:(LS n k).length=N
 sm:N<=302
 od:((LS n k).all (HE n))=true
 a:∀h,c5 [.int n,.int k,.tup []] h=.ok (.int N) h
 b:∀h,cM tt1 (ah f7 (ae (af 1) (ae (af 2) (ae (af 0) aj)))) (fun x=>[some x,some (.int n),some (.int k)]) (b7 0 N) h=.ok ((LS n k).map tpI) h
 c:(LS n k).map (nB n)=Nj N
 d:N<301->∀h,iC ay [.frl ((LS n k).map tpI)] h=.ok (.frl ((SL n k).map tpI)) h/\c_ [.int n,.int k] h=.ok (.frl ((SL n k).map tpI)) h
 e:∀h,lI [.frl ((LS n k).map tpI)] h=.ok (.int N) h
 f:∀h,(cq n k).map (fun p=>dH [tpI p.1] h)=(cq n k).map fun p=>R.ok (D.int p.2) h
 g:∀h,(cq n k).map (fun p=>dIx (tpI p.1) (.int (-1)) h)=(cq n k).map fun _=>R.ok (D.int k) h
 v:((cq n k).all fun p=>sd (cq n k) p.1 == some p.2)=true
theorem Gj:cq 1 0=[([0],1)]:=by kernel_rfl
theorem Mb:EA 1 0 1:=⟨by kernel_rfl,by decide,by kernel_rfl,fun _=>by kernel_rfl,fun _=>by kernel_rfl,by kernel_rfl,fun _ _=>⟨by kernel_rfl,by kernel_rfl⟩,fun _=>by kernel_rfl,fun _=>by rw[Gj];kernel_rfl,fun _=>by rw[Gj];kernel_rfl,by rw[Gj];kernel_rfl⟩
theorem GR:cq 2 0=[([0,0],1)]:=by kernel_rfl
theorem LG:EA 2 0 1:=⟨by kernel_rfl,by decide,by kernel_rfl,fun _=>by kernel_rfl,fun _=>by kernel_rfl,by kernel_rfl,fun _ _=>⟨by kernel_rfl,by kernel_rfl⟩,fun _=>by kernel_rfl,fun _=>by rw[GR];kernel_rfl,fun _=>by rw[GR];kernel_rfl,by rw[GR];kernel_rfl⟩
theorem Hc:cq 2 1=[([0,1],1)]:=by kernel_rfl
theorem Mk:EA 2 1 1:=⟨by kernel_rfl,by decide,by kernel_rfl,fun _=>by kernel_rfl,fun _=>by kernel_rfl,by kernel_rfl,fun _ _=>⟨by kernel_rfl,by kernel_rfl⟩,fun _=>by kernel_rfl,fun _=>by rw[Hc];kernel_rfl,fun _=>by rw[Hc];kernel_rfl,by rw[Hc];kernel_rfl⟩
theorem GO:cq 3 0=[([0,0,0],1)]:=by kernel_rfl
theorem KZ:EA 3 0 1:=⟨by kernel_rfl,by decide,by kernel_rfl,fun _=>by kernel_rfl,fun _=>by kernel_rfl,by kernel_rfl,fun _ _=>⟨by kernel_rfl,by kernel_rfl⟩,fun _=>by kernel_rfl,fun _=>by rw[GO];kernel_rfl,fun _=>by rw[GO];kernel_rfl,by rw[GO];kernel_rfl⟩
theorem HI:cq 3 1=[([0,1,1],2),([0,0,1],2)]:=by kernel_rfl
theorem Lv:EA 3 1 4:=⟨by kernel_rfl,by decide,by kernel_rfl,fun _=>by kernel_rfl,fun _=>by kernel_rfl,by kernel_rfl,fun _ _=>⟨by kernel_rfl,by kernel_rfl⟩,fun _=>by kernel_rfl,fun _=>by rw[HI];kernel_rfl,fun _=>by rw[HI];kernel_rfl,by rw[HI];kernel_rfl⟩
theorem Hf:cq 3 2=[([0,1,2],1)]:=by kernel_rfl
theorem Lr:EA 3 2 1:=⟨by kernel_rfl,by decide,by kernel_rfl,fun _=>by kernel_rfl,fun _=>by kernel_rfl,by kernel_rfl,fun _ _=>⟨by kernel_rfl,by kernel_rfl⟩,fun _=>by kernel_rfl,fun _=>by rw[Hf];kernel_rfl,fun _=>by rw[Hf];kernel_rfl,by rw[Hf];kernel_rfl⟩
theorem FY:cq 4 0=[([0,0,0,0],1)]:=by kernel_rfl
theorem Lp:EA 4 0 1:=⟨by kernel_rfl,by decide,by kernel_rfl,fun _=>by kernel_rfl,fun _=>by kernel_rfl,by kernel_rfl,fun _ _=>⟨by kernel_rfl,by kernel_rfl⟩,fun _=>by kernel_rfl,fun _=>by rw[FY];kernel_rfl,fun _=>by rw[FY];kernel_rfl,by rw[FY];kernel_rfl⟩
theorem HS:cq 4 1=[([0,1,1,1],4),([0,0,1,1],4),([0,0,0,1],3)]:=by kernel_rfl
theorem Lf:EA 4 1 11:=⟨by kernel_rfl,by decide,by kernel_rfl,fun _=>by kernel_rfl,fun _=>by kernel_rfl,by kernel_rfl,fun _ _=>⟨by kernel_rfl,by kernel_rfl⟩,fun _=>by kernel_rfl,fun _=>by rw[HS];kernel_rfl,fun _=>by rw[HS];kernel_rfl,by rw[HS];kernel_rfl⟩
theorem G3:cq 4 2=[([0,1,2,2],3),([0,1,1,2],4),([0,0,1,2],4)]:=by kernel_rfl
theorem Me:EA 4 2 11:=⟨by kernel_rfl,by decide,by kernel_rfl,fun _=>by kernel_rfl,fun _=>by kernel_rfl,by kernel_rfl,fun _ _=>⟨by kernel_rfl,by kernel_rfl⟩,fun _=>by kernel_rfl,fun _=>by rw[G3];kernel_rfl,fun _=>by rw[G3];kernel_rfl,by rw[G3];kernel_rfl⟩
theorem G_:cq 4 3=[([0,1,2,3],1)]:=by kernel_rfl
theorem Mf:EA 4 3 1:=⟨by kernel_rfl,by decide,by kernel_rfl,fun _=>by kernel_rfl,fun _=>by kernel_rfl,by kernel_rfl,fun _ _=>⟨by kernel_rfl,by kernel_rfl⟩,fun _=>by kernel_rfl,fun _=>by rw[G_];kernel_rfl,fun _=>by rw[G_];kernel_rfl,by rw[G_];kernel_rfl⟩
theorem Fw:cq 5 0=[([0,0,0,0,0],1)]:=by kernel_rfl
theorem Ls:EA 5 0 1:=⟨by kernel_rfl,by decide,by kernel_rfl,fun _=>by kernel_rfl,fun _=>by kernel_rfl,by kernel_rfl,fun _ _=>⟨by kernel_rfl,by kernel_rfl⟩,fun _=>by kernel_rfl,fun _=>by rw[Fw];kernel_rfl,fun _=>by rw[Fw];kernel_rfl,by rw[Fw];kernel_rfl⟩
theorem GH:cq 5 1=[([0,1,1,1,1],8),([0,0,1,1,1],8),([0,0,0,1,1],6),([0,0,0,0,1],4)]:=by kernel_rfl
theorem MB:EA 5 1 26:=⟨by kernel_rfl,by decide,by kernel_rfl,fun _=>by kernel_rfl,fun _=>by kernel_rfl,by kernel_rfl,fun _ _=>⟨by kernel_rfl,by kernel_rfl⟩,fun _=>by kernel_rfl,fun _=>by rw[GH];kernel_rfl,fun _=>by rw[GH];kernel_rfl,by rw[GH];kernel_rfl⟩
theorem Gg:cq 5 2=[([0,1,2,2,2],9),([0,1,1,2,2],12),([0,0,1,2,2],12),([0,1,1,1,2],12),([0,0,1,1,2],12),([0,0,0,1,2],9)]:=by kernel_rfl
theorem Mr:EA 5 2 66:=⟨by kernel_rfl,by decide,by kernel_rfl,fun _=>by kernel_rfl,fun _=>by kernel_rfl,by kernel_rfl,fun _ _=>⟨by kernel_rfl,by kernel_rfl⟩,fun _=>by kernel_rfl,fun _=>by rw[Gg];kernel_rfl,fun _=>by rw[Gg];kernel_rfl,by rw[Gg];kernel_rfl⟩
theorem HM:cq 5 3=[([0,1,2,3,3],4),([0,1,2,2,3],6),([0,1,1,2,3],8),([0,0,1,2,3],8)]:=by kernel_rfl
theorem LP:EA 5 3 26:=⟨by kernel_rfl,by decide,by kernel_rfl,fun _=>by kernel_rfl,fun _=>by kernel_rfl,by kernel_rfl,fun _ _=>⟨by kernel_rfl,by kernel_rfl⟩,fun _=>by kernel_rfl,fun _=>by rw[HM];kernel_rfl,fun _=>by rw[HM];kernel_rfl,by rw[HM];kernel_rfl⟩
theorem GY:cq 5 4=[([0,1,2,3,4],1)]:=by kernel_rfl
theorem Lh:EA 5 4 1:=⟨by kernel_rfl,by decide,by kernel_rfl,fun _=>by kernel_rfl,fun _=>by kernel_rfl,by kernel_rfl,fun _ _=>⟨by kernel_rfl,by kernel_rfl⟩,fun _=>by kernel_rfl,fun _=>by rw[GY];kernel_rfl,fun _=>by rw[GY];kernel_rfl,by rw[GY];kernel_rfl⟩
theorem Im:cq 6 0=[([0,0,0,0,0,0],1)]:=by kernel_rfl
theorem K1:EA 6 0 1:=⟨by kernel_rfl,by decide,by kernel_rfl,fun _=>by kernel_rfl,fun _=>by kernel_rfl,by kernel_rfl,fun _ _=>⟨by kernel_rfl,by kernel_rfl⟩,fun _=>by kernel_rfl,fun _=>by rw[Im];kernel_rfl,fun _=>by rw[Im];kernel_rfl,by rw[Im];kernel_rfl⟩
theorem E9:cq 6 1=[([0,1,1,1,1,1],16),([0,0,1,1,1,1],16),([0,0,0,1,1,1],12),([0,0,0,0,1,1],8),([0,0,0,0,0,1],5)]:=by kernel_rfl
theorem Mw:EA 6 1 57:=⟨by kernel_rfl,by decide,by kernel_rfl,fun _=>by kernel_rfl,fun _=>by kernel_rfl,by kernel_rfl,fun _ _=>⟨by kernel_rfl,by kernel_rfl⟩,fun _=>by kernel_rfl,fun _=>by rw[E9];kernel_rfl,fun _=>by rw[E9];kernel_rfl,by rw[E9];kernel_rfl⟩
theorem Hu:cq 6 2=[([0,1,2,2,2,2],27),([0,1,1,2,2,2],36),([0,0,1,2,2,2],36),([0,1,1,1,2,2],36),([0,0,1,1,2,2],36),([0,0,0,1,2,2],27),([0,1,1,1,1,2],32),([0,0,1,1,1,2],32),([0,0,0,1,1,2],24),([0,0,0,0,1,2],16)]:=by kernel_rfl
theorem cb2 (h:Hh):cM tt1 (ah f7 (ae (af 1) (ae (af 2) (ae (af 0) aj)))) (fun x=>[some x,some (.int 6),some (.int 2)]) (b7 0 302) h=.ok ((LS 6 2).map tpI) h:=by kernel_rfl
theorem ce2 (h:Hh):lI [.frl ((LS 6 2).map tpI)] h=.ok (.int 302) h:=by kernel_rfl
theorem Mj:EA 6 2 302:=⟨by kernel_rfl,by decide,by kernel_rfl,fun _=>by kernel_rfl,cb2,by kernel_rfl,fun z=>absurd z (by decide),ce2,fun _=>by rw[Hu];kernel_rfl,fun _=>by rw[Hu];kernel_rfl,by rw[Hu];kernel_rfl⟩
theorem G2:cq 6 3=[([0,1,2,3,3,3],16),([0,1,2,2,3,3],24),([0,1,1,2,3,3],32),([0,0,1,2,3,3],32),([0,1,2,2,2,3],27),([0,1,1,2,2,3],36),([0,0,1,2,2,3],36),([0,1,1,1,2,3],36),([0,0,1,1,2,3],36),([0,0,0,1,2,3],27)]:=by kernel_rfl
theorem cb3 (h:Hh):cM tt1 (ah f7 (ae (af 1) (ae (af 2) (ae (af 0) aj)))) (fun x=>[some x,some (.int 6),some (.int 3)]) (b7 0 302) h=.ok ((LS 6 3).map tpI) h:=by kernel_rfl
theorem ce3 (h:Hh):lI [.frl ((LS 6 3).map tpI)] h=.ok (.int 302) h:=by kernel_rfl
theorem K9:EA 6 3 302:=⟨by kernel_rfl,by decide,by kernel_rfl,fun _=>by kernel_rfl,cb3,by kernel_rfl,fun z=>absurd z (by decide),ce3,fun _=>by rw[G2];kernel_rfl,fun _=>by rw[G2];kernel_rfl,by rw[G2];kernel_rfl⟩
theorem HB:cq 6 4=[([0,1,2,3,4,4],5),([0,1,2,3,3,4],8),([0,1,2,2,3,4],12),([0,1,1,2,3,4],16),([0,0,1,2,3,4],16)]:=by kernel_rfl
theorem Lj:EA 6 4 57:=⟨by kernel_rfl,by decide,by kernel_rfl,fun _=>by kernel_rfl,fun _=>by kernel_rfl,by kernel_rfl,fun _ _=>⟨by kernel_rfl,by kernel_rfl⟩,fun _=>by kernel_rfl,fun _=>by rw[HB];kernel_rfl,fun _=>by rw[HB];kernel_rfl,by rw[HB];kernel_rfl⟩
theorem Fg:cq 6 5=[([0,1,2,3,4,5],1)]:=by kernel_rfl
theorem KS:EA 6 5 1:=⟨by kernel_rfl,by decide,by kernel_rfl,fun _=>by kernel_rfl,fun _=>by kernel_rfl,by kernel_rfl,fun _ _=>⟨by kernel_rfl,by kernel_rfl⟩,fun _=>by kernel_rfl,fun _=>by rw[Fg];kernel_rfl,fun _=>by rw[Fg];kernel_rfl,by rw[Fg];kernel_rfl⟩
theorem Ib:∀n k:Nat,1<=n->n<=6->k<n->∃N,EA n k N
 | 1,0,_,_,_=>⟨_,Mb⟩
 | 2,0,_,_,_=>⟨_,LG⟩
 | 2,1,_,_,_=>⟨_,Mk⟩
 | 3,0,_,_,_=>⟨_,KZ⟩
 | 3,1,_,_,_=>⟨_,Lv⟩
 | 3,2,_,_,_=>⟨_,Lr⟩
 | 4,0,_,_,_=>⟨_,Lp⟩
 | 4,1,_,_,_=>⟨_,Lf⟩
 | 4,2,_,_,_=>⟨_,Me⟩
 | 4,3,_,_,_=>⟨_,Mf⟩
 | 5,0,_,_,_=>⟨_,Ls⟩
 | 5,1,_,_,_=>⟨_,MB⟩
 | 5,2,_,_,_=>⟨_,Mr⟩
 | 5,3,_,_,_=>⟨_,LP⟩
 | 5,4,_,_,_=>⟨_,Lh⟩
 | 6,0,_,_,_=>⟨_,K1⟩
 | 6,1,_,_,_=>⟨_,Mw⟩
 | 6,2,_,_,_=>⟨_,Mj⟩
 | 6,3,_,_,_=>⟨_,K9⟩
 | 6,4,_,_,_=>⟨_,Lj⟩
 | 6,5,_,_,_=>⟨_,KS⟩
theorem BX {n:Nat}{xs ys:List Int} (p:xs.Perm ys) (o:Ord n ys):Ord n xs:=⟨p.length_eq.trans o.len,p.nodup_iff.mpr o.nd,fun x hx=>o.lo x (p.mem_iff.mp hx),fun x hx=>o.hi x (p.mem_iff.mp hx)⟩
noncomputable def uK (n:Nat) (xs:List Int):List Int:=((Nj (n+1)).filter fun i=>!aJ xs i).map fun(i:Nat)=>(i:Int)
theorem zZ {n:Nat}{xs:List Int} (o:Ord n xs) (h1:1<=n):Ord (n+1) (bJ xs++uK n xs):=by
 refine BX ?_ (vy (n+1))
 rw[<- dR (by rw[o.len];exact h1),o.len]
 unfold uK
 rw[<- Ou]
 have e:fE 0 (n+1)=(Nj (n+1)).map fun(i:Nat)=>(i:Int):=by unfold fE;exact OH fun i _=>by lia
 rw[e]
 exact(List.filter_append_perm _ _).map _
theorem B8 (xs:List Int) (m:Int) (s:Nat):aY xs m s=iu xs s m:=rfl
theorem vU {n s:Nat}{xs:List Int} (o:Ord n xs):(aY xs n s).length=n+1:=by
 have:=(jb xs s (n:Int)).length_eq
 rw[B8,this,N8,o.len]
theorem BH {n s:Nat}{xs:List Int} (o:Ord n xs):cH (aY xs n s)=cH xs++[((cA (aY xs n s)).length:Int)]:=by
 unfold cH
 rw[vU o,o.len,Pz,Ou,List.map_singleton,B8]
 rw[uv (k:=n) fun x hx=>by
  have:=(jb xs s (n:Int)).mem_iff.mp hx
  rcases Nx.mp this with rfl | h
  ·lia
  ·have:=o.hi x h;lia]
 congr 1
 exact OH fun k hk=>by rw[qM (by have:=N7.mp hk;lia)]
theorem De {n s:Nat}{xs:List Int} (o:Ord n xs) (hs:s<=n):fF (aY xs n s)=fF xs++[(s:Int)]:=by
 unfold fF
 rw[vU o,o.len,Pz,Ou,List.map_singleton,B8]
 have e:ixI (iu xs s (n:Int)) n=s:=by
  unfold ixI
  rw[uv (k:=n) fun x hx=>by
   have:=(jb xs s (n:Int)).mem_iff.mp hx
   rcases Nx.mp this with rfl | h
   ·lia
   ·have:=o.hi x h;lia]
  exact zF (by rw[o.len];exact hs) fun h=>by have:=o.hi _ h;lia
 rw[e]
 congr 1
 exact OH fun k hk=>by unfold ixI;rw[qM (by have:=N7.mp hk;lia)]
noncomputable def CGB:MS:=(bR (cQ (aB gR (ah bo (ae (af 2) (ae (cC (.int 0)) (ae (af 1) aj)))))) (aU (cC (.bl false))) bc)
theorem Jc:dE=bN 3 (ax (bR (gy (cQ (aB gR (cUn (pD "tuple") (af 0)))) (cQ (aB asB (gz dLe dLe (cC (.int 1)) (ah bH (ae (af 0) aj)) (cC (.int 20)))))) (aU (cC (.bl false))) bc) (ax (fC (iG (af 0)) (gT2 1 2) CGB) (aU (cC (.bl true))))):=rfl
theorem Mp {cs:List Int}{h:Hh} (c:Cod cs):dE [.tup (cs.map D.int)] h=.ok (.bl true) h:=by
 obtain⟨q,_⟩:=xS (σ:=Option D × Option D) (tg:=gT2 1 2) (body:=CGB) (fun(i:Nat)=>D.tup [.int i,.int (gI cs i)]) cs.length (fun s=>[some (.tup (cs.map D.int)),s.1,s.2]) (fun _=>h) (fun s i=>(some (.int i),some (.int (gI cs i)))) (fun _ _=>True) (none,none) trivial (fun i s hi _=>⟨trivial,.inl (by
  have r:=c.rng i hi
  simp[CGB,r])⟩)
 rw[<- qE] at q
 have en:∀H:Hh,uE (.tup (cs.map D.int)) H=.ok (.snap (gO (cs.map D.int))) H:=fun _=>rfl
 have c1:(1:Int)<=cs.length:=by have:=c.KR;lia
 have c2:(cs.length:Int)<=20:=by have:=c.Ky;lia
 rw[Jc]
 simp[b9,c1,c2,en,q]
theorem IS:dC=lq (fun ds h=>((bN 4 (ax (bR (cQ (aB gR (ah dE (ae (af 0) aj)))) uz bc) (ax (bf 1 (ah (jd tD) aj)) (ax (fC (iG (af 0)) (gT2 2 3) OBB) (aU (ah eC (ae (af 1) aj))))))) ds h).bind (di h)):=rfl
theorem LD {cs:List Int}{h:Hh} (c:Cod cs):dC [.tup (cs.map D.int)] h=.ok (.tup ((kD cs).map D.int)) h:=by
 have g:=Mp (h:=[]) c
 obtain⟨a,b,q⟩:=Ez (h:=[]) c (some (.tup (cs.map D.int)))
 simp only[Pd,List.length_nil] at q
 have en:∀H:Hh,uE (.tup (cs.map D.int)) H=.ok (.snap (gO (cs.map D.int))) H:=fun _=>rfl
 have ex:di [] (.tup ((kD cs).map D.int)) [.lst ((kD cs).map D.int)]=.ok (.tup ((kD cs).map D.int)) []:=fT (h:=[]) (t:=[.lst ((kD cs).map D.int)]) (d:=.tup ((kD cs).map D.int)) Wf.nil (by simp)
 have tl:eC [.ref 0] [.lst ((kD cs).map D.int)]=.ok (.tup ((kD cs).map D.int)) [.lst ((kD cs).map D.int)]:=rfl
 have lo:bT 0 [D.tup (cs.map D.int)]=true:=by simp[bT,iB]
 have lo2:iB 0 (D.tup ((kD cs).map D.int))=true:=by simp[iB]
 have nl:jd tD [] ([]:Hh)=.ok (.ref 0) [.lst []]:=rfl
 rw[IS]
 simp[lq,lo,b9,g,en,nl,q,tl,ex,lo2]
theorem rQ {n:Nat}{o:List Int}{h:Hh} (od:Ord n o) (h1:1<=n) (hn:n<=20) (w:Wf h):bq [.tup (o.map D.int)] h=.ok (.int (fc o:Nat)) h:=by
 have:=nL (h:=h) od h1 hn w
 rw[<- jB]
 simp[bq,b9,this]
theorem xk {L:List Int} (so:L.Pairwise (· < ·)){i:Nat}:∀j,i+j<L.length->gI L i+j<=gI L (i+j)
 | 0,_=>by simp
 | j+1,h=>by
  have ih:=xk so (i:=i) j (by lia)
  have:=NI.mp so (i+j) (i+j+1) (by lia) (by lia) (by lia)
  rw[<- iV (by lia),<- iV (by lia)] at this
  grind
theorem Bg {os:List Int} (o:Ord n os):sortI os=fE 0 n:=by
 have p:=sortI_perm os
 have nd:(sortI os).Nodup:=p.nodup_iff.mpr o.nd
 have so:(sortI os).Pairwise (· < ·):=by
  have a:=iq os
  rw[NI] at a ⊢
  intro i j hi hj h
  have:=a i j hi hj h
  have:=NI.mp nd i j hi hj h
  lia
 have l:(sortI os).length=n:=by rw[p.length_eq,o.len]
 refine J0 (by rw[l,iP]) fun i hi=>?_
 have a:=xk so (i:=0) i (by lia)
 have b:=xk so (i:=i) (n - 1 - i) (by lia)
 rw[show i+(n - 1 - i)=n - 1 by lia] at b
 have m0:=AR (ns:=sortI os) (j:=0) (by lia)
 have m1:=AR (ns:=sortI os) (j:=n - 1) (by lia)
 have:=o.lo _ (p.mem_iff.mp m0)
 have:=o.hi _ (p.mem_iff.mp m1)
 rw[O9] at a
 have:gI (fE 0 n) i=i:=by rw[iV (by rw[iP];lia)];simp[fE]
 lia
noncomputable def B2:MS:=(ax (bf 2 (ah cj (ae (af 1) aj))) (ax (bf 3 (aq (aW ay) (cC (.int 1)) (ah aH (ae (af 2) (ae (cC (.int 6)) aj))))) (ax (bf 4 (ah aH (ae (af 2) (ae (af 3) aj)))) (ax (bf 5 (ah c5 (ae (af 3) (ae (af 4) (ae (ah ip aj) aj))))) (ax (bf 6 (cN ay (iD jg (ae (af 5) aj)) [3,4] tt1 (ah f7 (ae (af 1) (ae (af 2) (ae (af 0) aj)))))) (ax (bR (aB asB (aq dNe (cN ay (df (af 6)) [] tt1 (ah (aM 7) (ae (af 0) aj))) (ah (e7 ay) (ae (af 5) aj)))) (aU (cC (.bl false))) bc) (ax (bR (gy (qJ (aB asB (aq dLt (af 5) (cC (.int 301)))) (aB asB (aq dNe (ah (iC ay) (ae (af 6) aj)) (ah c_ (ae (af 3) (ae (af 4) aj)))))) (aB asB (aq dNe (ah lI (ae (af 6) aj)) (af 5)))) (aU (cC (.bl false))) bc) (ax (bf 7 yR) (ax (fC (df (af 6)) (gN 8) B0) (ax (fC (df (ah (jM ay) (ae (af 7) aj))) (gN 9) B1) (ax (bf 10 (ah cG (ae (af 2) (ae (aq (aW ay) (cC (.int 1)) (ah aH (ae (af 2) (ae (cC (.int 19)) aj)))) aj)))) (ax (bf 11 (ah aP (ae (af 10) aj))) (ax (bR (gy (aB asB (aq dNe (ah bH (ae (af 11) aj)) (aq (aW ay) (ah bq (ae (af 10) aj)) (cC (.int 1))))) (aB asB (aq dNe (ah (lP ay) (ae (aq (aW ay) (af 11) (ah a9 (ae (af 10) aj))) aj)) (ah (e7 ay) (ae (aq (aW ay) (ah bH (ae (af 10) aj)) (cC (.int 1))) aj))))) (aU (cC (.bl false))) bc) (ax (bf 12 (ah aH (ae (af 2) (ae (aq (aW ay) (ah bH (ae (af 10) aj)) (cC (.int 1))) aj)))) (ax (bf 13 (ah cx (ae (af 10) (ae (af 12) aj)))) (ax (bf 14 (aq (aW ay) (ah bq (ae (af 10) aj)) (ah yX (ae (aq (dIn true) (af 12) (af 11)) aj)))) (ax (bR (gy (aB asB (aq dNe (ah bq (ae (af 13) aj)) (af 14))) (aB asB (aq dNe (ah bO (ae (af 13) aj)) (aq (aW ay) (ah bO (ae (af 10) aj)) (ah ip (ae (af 14) aj)))))) (aU (cC (.bl false))) bc) (bR (gy (aB asB (aq dNe (ah bV (ae (af 13) aj)) (aq (aW ay) (ah bV (ae (af 10) aj)) (ah ip (ae (af 12) aj))))) (aB asB (aq dNe (ah dC (ae (ah bV (ae (af 13) aj)) aj)) (af 13)))) (aU (cC (.bl false))) bc))))))))))))))))))
theorem Cf:nJ=fun ds h=>((bN 15 (ax (fC (df (aq (aW ay) (ah (jd ay) (ae (ah bY (ae (af 0) (ae (cC (.int 0)) aj))) aj)) (fH ay (af 0) (gi (cC (.int 1))) (gi (cC (.int 3)))))) (gN 1) B2) (aU (cC (.bl true))))) ds h).bind (di h):=rfl
noncomputable def Bk:Prop:=∀(ns:List Int) (c:Int) (y2 y3 y4 y5 y6 y7 y8 y9 y10 y11 y12 y13 y14:Option D) (h:Hh),Wf h->Ok (B2 [some (.scr (ns.map D.int)),some (.int c),y2,y3,y4,y5,y6,y7,y8,y9,y10,y11,y12,y13,y14] h) fun fl h2=>∃z2 z3 z4 z5 z6 z7 z8 z9 z10 z11 z12 z13 z14,fl=.nx [some (.scr (ns.map D.int)),some (.int c),z2,z3,z4,z5,z6,z7,z8,z9,z10,z11,z12,z13,z14]/\Wf h2
theorem HC (step:Bk) (ns:List Int) (hl:ns.length<=63):∃h,nJ [.scr (ns.map D.int)] []=.ok (.bl true) h:=by
 have key:Ok (fq (gN 1) B2 (((ns.headD 0)::lC ns (some 1) (some 3)).map D.int) [some (.scr (ns.map D.int)),none,none,none,none,none,none,none,none,none,none,none,none,none,none] []) fun fl h2=>(∃e,fl=.nx e)/\Wf h2:=by
  refine se D.int (fun e h=>(∃y1 y2 y3 y4 y5 y6 y7 y8 y9 y10 y11 y12 y13 y14,e=[some (.scr (ns.map D.int)),y1,y2,y3,y4,y5,y6,y7,y8,y9,y10,y11,y12,y13,y14])/\Wf h) _ _ _ ⟨⟨_,_,_,_,_,_,_,_,_,_,_,_,_,_,rfl⟩,Wf.nil⟩ (fun x e h _ ⟨⟨y1,y2,y3,y4,y5,y6,y7,y8,y9,y10,y11,y12,y13,y14,e1⟩,w⟩=>?_) (fun e h ⟨_,w⟩=>⟨⟨_,rfl⟩,w⟩)
  subst e1
  simp only[Ht,f_,Th]
  refine(step ns x y2 y3 y4 y5 y6 y7 y8 y9 y10 y11 y12 y13 y14 h w).mono fun fl h2 ⟨z2,z3,z4,z5,z6,z7,z8,z9,z10,z11,z12,z13,z14,e2,w2⟩=>?_
  subst e2
  exact⟨⟨_,_,_,_,_,_,_,_,_,_,_,_,_,_,rfl⟩,w2⟩
 obtain⟨fl,h2,e,⟨e',rfl⟩,w⟩:=key
 have cl:=Dw ns (some 1) (some 3)
 have c1:1+(lC ns (some 1) (some 3)).length<=1000000:=by lia
 have ex:di [] (.bl true) h2=.ok (.bl true) []:=by
  have:=fT (h:=[]) (t:=h2) (d:=.bl true) Wf.nil rfl
  simpa using this
 refine⟨[],?_⟩
 have e2:fq (gN 1) B2 (D.int (ns.headD 0)::(lC ns (some 1) (some 3)).map D.int) [some (.scr (ns.map D.int)),none,none,none,none,none,none,none,none,none,none,none,none,none,none] []=.ok (.nx e') h2:=e
 rw[Cf]
 simp[b9,qk,c1,e2,ex,-List.headD_eq_head?_getD]
noncomputable def S1:MS:=(bf 2 (ah cj (ae (af 1) aj)))
noncomputable def S2:MS:=(bf 3 (aq (aW ay) (cC (.int 1)) (ah aH (ae (af 2) (ae (cC (.int 6)) aj)))))
noncomputable def S3:MS:=(bf 4 (ah aH (ae (af 2) (ae (af 3) aj))))
noncomputable def S4:MS:=(bf 5 (ah c5 (ae (af 3) (ae (af 4) (ae (ah ip aj) aj)))))
noncomputable def S5:MS:=(bf 6 (cN ay (iD jg (ae (af 5) aj)) [3,4] tt1 (ah f7 (ae (af 1) (ae (af 2) (ae (af 0) aj))))))
noncomputable def S6:MS:=(bR (aB asB (aq dNe (cN ay (df (af 6)) [] tt1 (ah (aM 7) (ae (af 0) aj))) (ah (e7 ay) (ae (af 5) aj)))) (aU (cC (.bl false))) bc)
noncomputable def S7:MS:=(bR (gy (qJ (aB asB (aq dLt (af 5) (cC (.int 301)))) (aB asB (aq dNe (ah (iC ay) (ae (af 6) aj)) (ah c_ (ae (af 3) (ae (af 4) aj)))))) (aB asB (aq dNe (ah lI (ae (af 6) aj)) (af 5)))) (aU (cC (.bl false))) bc)
noncomputable def S8:MS:=(bf 7 yR)
noncomputable def S9:MS:=(fC (df (af 6)) (gN 8) B0)
noncomputable def S10:MS:=(fC (df (ah (jM ay) (ae (af 7) aj))) (gN 9) B1)
noncomputable def S11:MS:=(bf 10 (ah cG (ae (af 2) (ae (aq (aW ay) (cC (.int 1)) (ah aH (ae (af 2) (ae (cC (.int 19)) aj)))) aj))))
noncomputable def S12:MS:=(bf 11 (ah aP (ae (af 10) aj)))
noncomputable def S13:MS:=(bR (gy (aB asB (aq dNe (ah bH (ae (af 11) aj)) (aq (aW ay) (ah bq (ae (af 10) aj)) (cC (.int 1))))) (aB asB (aq dNe (ah (lP ay) (ae (aq (aW ay) (af 11) (ah a9 (ae (af 10) aj))) aj)) (ah (e7 ay) (ae (aq (aW ay) (ah bH (ae (af 10) aj)) (cC (.int 1))) aj))))) (aU (cC (.bl false))) bc)
noncomputable def S14:MS:=(bf 12 (ah aH (ae (af 2) (ae (aq (aW ay) (ah bH (ae (af 10) aj)) (cC (.int 1))) aj))))
noncomputable def S15:MS:=(bf 13 (ah cx (ae (af 10) (ae (af 12) aj))))
noncomputable def S16:MS:=(bf 14 (aq (aW ay) (ah bq (ae (af 10) aj)) (ah yX (ae (aq (dIn true) (af 12) (af 11)) aj))))
noncomputable def S17:MS:=(bR (gy (aB asB (aq dNe (ah bq (ae (af 13) aj)) (af 14))) (aB asB (aq dNe (ah bO (ae (af 13) aj)) (aq (aW ay) (ah bO (ae (af 10) aj)) (ah ip (ae (af 14) aj)))))) (aU (cC (.bl false))) bc)
noncomputable def S18:MS:=(bR (gy (aB asB (aq dNe (ah bV (ae (af 13) aj)) (aq (aW ay) (ah bV (ae (af 10) aj)) (ah ip (ae (af 12) aj))))) (aB asB (aq dNe (ah dC (ae (ah bV (ae (af 13) aj)) aj)) (af 13)))) (aU (cC (.bl false))) bc)
theorem Jp:B2=ax S1 (ax S2 (ax S3 (ax S4 (ax S5 (ax S6 (ax S7 (ax S8 (ax S9 (ax S10 (ax S11 (ax S12 (ax S13 (ax S14 (ax S15 (ax S16 (ax S17 (S18))))))))))))))))):=rfl
theorem yj (k:Nat) (h:Hh):∀L:List (List Int),eqL (eqD (k+2) h) (L.map tpI) (L.map tpI)=some true
 | []=>rfl
 | x::L=>by
  have e1:eqD (k+2) h (tpI x) (tpI x)=some true:=by
   show eqL (eqD (k+1) h) (x.map D.int) (x.map D.int)=some true
   rw[jc];simp
  simp only[ND,eqL,e1,yj k h L];rfl
theorem Mn {L:List (List Int)}{h:Hh}:dNe (.frl (L.map tpI)) (.frl (L.map tpI)) h=.ok (.bl false) h:=by
 have:eqD eqN h (.frl (L.map tpI)) (.frl (L.map tpI))=some true:=by
  show(if (L.map tpI).length=(L.map tpI).length then eqL (eqD (9+2) h) (L.map tpI) (L.map tpI) else some false)=some true
  rw[if_pos rfl,yj]
 simp only[dNe,this];rfl
theorem Kn {xs:List Int}{h:Hh}:dNe (.frl (xs.map D.int)) (.frl (xs.map D.int)) h=.ok (.bl false) h:=by
 have:eqD eqN h (.frl (xs.map D.int)) (.frl (xs.map D.int))=some true:=by
  show(if (xs.map D.int).length=(xs.map D.int).length then eqL (eqD (10+1) h) (xs.map D.int) (xs.map D.int) else some false)=some true
  rw[if_pos rfl,jc];simp
 simp only[dNe,this];rfl
theorem neT {h:Hh}{xs:List Int}:dNe (.tup (xs.map D.int)) (.tup (xs.map D.int)) h=.ok (.bl false) h:=by
 have:eqD eqN h (.tup (xs.map D.int)) (.tup (xs.map D.int))=some (decide (xs=xs)):=jc 10 h xs xs
 simp only[dNe,this];simp
section
variable {n k N:Nat}{H:Hh}{d0 d1 d2 y5 y6 y7 y8 y9 y10 y11 y12 y13 y14:Option D}
theorem JX (E:EA n k N):S4 [d0,d1,d2,some (.int n),some (.int k),y5,y6,y7,y8,y9,y10,y11,y12,y13,y14] H=.ok (.nx [d0,d1,d2,some (.int n),some (.int k),some (.int N),y6,y7,y8,y9,y10,y11,y12,y13,y14]) H:=by
 simp[S4,E.a H]
theorem JI (E:EA n k N):S5 [d0,d1,d2,some (.int n),some (.int k),some (.int N),y6,y7,y8,y9,y10,y11,y12,y13,y14] H=.ok (.nx [d0,d1,d2,some (.int n),some (.int k),some (.int N),some (.frl ((LS n k).map tpI)),y7,y8,y9,y10,y11,y12,y13,y14]) H:=by
 have:=E.sm
 have z1:N<=1000000:=by lia
 have z2:(LS n k).length<=1000000:=by rw[E.len];lia
 simp[S5,E.b H,z1,z2]
theorem JA (E:EA n k N) (h1:1<=n) (hn:n<=6) (w:Wf H):S6 [d0,d1,d2,some (.int n),some (.int k),some (.int N),some (.frl ((LS n k).map tpI)),y7,y8,y9,y10,y11,y12,y13,y14] H=.ok (.nx [d0,d1,d2,some (.int n),some (.int k),some (.int N),some (.frl ((LS n k).map tpI)),y7,y8,y9,y10,y11,y12,y13,y14]) H:=by
 have:=E.sm
 have z1:N<=1000000:=by lia
 have z2:(LS n k).length<=1000000:=by rw[E.len];lia
 have q:cM tt1 (ah (aM 7) (ae (af 0) aj)) (fun x=>[some x]) ((LS n k).map tpI) H=.ok (b7 0 N) H:=by
  rw[oQ tpI (fun o=>D.int (nB n o:Nat)) (LS n k) fun o ho=>by
   have:=Bt w n 7 o (t6 (NU.mp E.od o ho)) h1 (by lia) (by lia)
   simp[tpI,this]]
  rw[lh,<- E.c,O1];rfl
 have ne:=Kn (h:=H) (xs:=fE 0 N)
 rw[<- mW] at ne
 simp[S6,q,z1,z2,ne]
theorem JF (E:EA n k N):S7 [d0,d1,d2,some (.int n),some (.int k),some (.int N),some (.frl ((LS n k).map tpI)),y7,y8,y9,y10,y11,y12,y13,y14] H=.ok (.nx [d0,d1,d2,some (.int n),some (.int k),some (.int N),some (.frl ((LS n k).map tpI)),y7,y8,y9,y10,y11,y12,y13,y14]) H:=by
 have e:=E.e H
 by_cases c:N<301
 ·obtain⟨a,b⟩:=E.d c H
  have ne:=Mn (h:=H) (L:=SL n k)
  have c2:(N:Int)<301:=by lia
  simp[S7,c2,a,b,ne,e]
 ·have c2:¬ (N:Int)<301:=by lia
  simp[S7,c2,e]
theorem IT:S8 [d0,d1,d2,some (.int n),some (.int k),y5,y6,y7,y8,y9,y10,y11,y12,y13,y14] H=.ok (.nx [d0,d1,d2,some (.int n),some (.int k),y5,y6,some (.ref H.length),y8,y9,y10,y11,y12,y13,y14]) (hp H []):=rfl
theorem Ko (E:EA n k N) (h1:1<=n) (hn:n<=20) (w:Wf H):∃z8,S9 [d0,d1,d2,some (.int n),some (.int k),y5,some (.frl ((LS n k).map tpI)),some (.ref H.length),y8,y9,y10,y11,y12,y13,y14] (hp H [])=.ok (.nx [d0,d1,d2,some (.int n),some (.int k),y5,some (.frl ((LS n k).map tpI)),some (.ref H.length),z8,y9,y10,y11,y12,y13,y14]) (hp H (cq n k)):=by
 obtain⟨z8,q⟩:=xJ (d0:=d0) (d1:=d1) (d2:=d2) (d3:=some (.int n)) (d4:=some (.int k)) (d5:=y5) (d6:=some (.frl ((LS n k).map tpI))) (d9:=y9) (d10:=y10) (d11:=y11) (d12:=y12) (d13:=y13) (d14:=y14) h1 hn w (LS n k) [] y8 (fun o ho=>t6 (NU.mp E.od o ho)) (by rw[E.len];have:=E.sm;simp;lia)
 refine⟨z8,?_⟩
 have sq:xn (.frl ((LS n k).map tpI)) (hp H [])=.ok (.snap ((LS n k).map tpI)) (hp H []):=rfl
 generalize hp H []=H0 at *
 simp[S9,sq,q]
 rfl
theorem Fc (E:EA n k N):∃z9,S10 [d0,d1,d2,some (.int n),some (.int k),y5,y6,some (.ref H.length),y8,y9,y10,y11,y12,y13,y14] (hp H (cq n k))=.ok (.nx [d0,d1,d2,some (.int n),some (.int k),y5,y6,some (.ref H.length),y8,z9,y10,y11,y12,y13,y14]) (hp H (cq n k)):=by
 obtain⟨z9,q⟩:=xZ (k:=k) (C:=cq n k) (H:=H) (d0:=d0) (d1:=d1) (d2:=d2) (d3:=some (.int n)) (d5:=y5) (d6:=y6) (d8:=y8) (d10:=y10) (d11:=y11) (d12:=y12) (d13:=y13) (d14:=y14) (cq n k) y9 (fun p hp'=>⟨List.map_inj_left.mp (E.f _) p hp',List.map_inj_left.mp (E.g _) p hp',by simpa using NU.mp E.v p hp'⟩)
 have kk:=AD (C:=cq n k) (H:=H)
 have sq:xn (.frl ((cq n k).map fun p=>tpI p.1)) (hp H (cq n k))=.ok (.snap ((cq n k).map fun p=>tpI p.1)) (hp H (cq n k)):=rfl
 refine⟨z9,?_⟩
 generalize hp H (cq n k)=H0 at *
 simp[S10,kk,sq,q]
end
noncomputable def hq (h:Hh) (p:Pen) (C:CT):Hh:=h++[.lst (cD p),.dit (encC C)]
theorem Hy {h:Hh}{p:Pen}{C:CT}:hp (h++[.lst (cD p)]) C=hq h p C:=by simp[hp,hq]
theorem A9 {h:Hh}{p:Pen}{C:CT} (w:Wf h):Wf (hq h p C):=by rw[<- Hy];exact EO (BJ w p)
theorem wO {xs:List Int}:(bJ xs).length=fc xs+1:=by
 unfold bJ;rw[NY,Nw,ik];rfl
section
variable {n s:Nat}{xs:List Int}{h:Hh}{p:Pen}{C:CT}{H:Hh}{d0 d1 d2 d3 d4 d5 d6 d7 d8 d9 y10 y11 y12 y13 y14:Option D}
theorem Hx {m:Nat} (e:1+cE p 19=(m:Int)) (hm:m<=19) (w:Wf h):S11 [d0,d1,some (.ref h.length),d3,d4,d5,d6,d7,d8,d9,y10,y11,y12,y13,y14] (hq h p C)=.ok (.nx [d0,d1,some (.ref h.length),d3,d4,d5,d6,d7,d8,d9,some (.tup ((mD (cn p 19) m).map D.int)),y11,y12,y13,y14]) (hq h (lz (cn p 19) m) C):=by
 have x:=CP (p:=cn p 19) (k:=m) (h:=hq h (cn p 19) C) (n:=h.length) (by unfold hq;exact i_) (A9 w) (by lia)
 have x2:(hq h (cn p 19) C).set h.length (.lst (cD (lz (cn p 19) m)))=hq h (lz (cn p 19) m) C:=by unfold hq;exact kx
 rw[x2] at x
 unfold hq at x ⊢
 simp[S11,e,x]
theorem Ha (o:Ord n xs) (h1:1<=n) (hn:n<=19) (w:Wf H):S12 [d0,d1,d2,d3,d4,d5,d6,d7,d8,d9,some (.tup (xs.map D.int)),y11,y12,y13,y14] H=.ok (.nx [d0,d1,d2,d3,d4,d5,d6,d7,d8,d9,some (.tup (xs.map D.int)),some (.tup ((bJ xs).map D.int)),y12,y13,y14]) H:=by
 simp[S12,rS o h1 (by lia) w]
theorem FG (o:Ord n xs) (h1:1<=n) (hn:n<=19) (w:Wf H):S13 [d0,d1,d2,d3,d4,d5,d6,d7,d8,d9,some (.tup (xs.map D.int)),some (.tup ((bJ xs).map D.int)),y12,y13,y14] H=.ok (.nx [d0,d1,d2,d3,d4,d5,d6,d7,d8,d9,some (.tup (xs.map D.int)),some (.tup ((bJ xs).map D.int)),y12,y13,y14]) H:=by
 have so:=zZ o h1
 have fm:=rQ (h:=H) o h1 (by lia) w
 have nw:=EG (h:=H) o h1 (by lia) w
 have l1:=wO (xs:=xs)
 have l2:=so.len
 rw[NY] at l2
 have st:=Bg so
 have ds:lP ay [.tup ((bJ xs).map D.int++(uK n xs).map D.int)] H=.ok (.frl (b7 0 (n+1))) H:=by
  rw[mW,<- Ou,DG,if_pos (by rw[NY];lia),st];rfl
 have ne:=Kn (h:=H) (xs:=fE 0 (n+1))
 rw[<- mW] at ne
 have hl:=o.len
 have z1:(bJ xs).length+(uK n xs).length<=1000000:=by lia
 have z2:((n:Int)+1).natAbs<=1000000:=by lia
 have z3:((n:Int)+1).toNat=n+1:=by lia
 have nw':a9 [.tup (xs.map D.int)] H=.ok (.tup ((uK n xs).map D.int)) H:=nw
 have ln:bH [.tup ((bJ xs).map D.int)] H=.ok (.int ((fc xs:Int)+1)) H:=by simp[l1]
 have ad:aW ay (.tup ((bJ xs).map D.int)) (.tup ((uK n xs).map D.int)) H=.ok (.tup ((bJ xs).map D.int++(uK n xs).map D.int)) H:=by simp[z1]
 generalize (bJ xs).map D.int=A at *
 generalize (uK n xs).map D.int=B at *
 simp[S13,ln,fm,nw',ad,ds,hl,z2,z3,ne]
theorem G0 (o:Ord n xs) (hn:n<=19) (e:cE p ((n:Int)+1)=(s:Int)):S14 [d0,d1,some (.ref h.length),d3,d4,d5,d6,d7,d8,d9,some (.tup (xs.map D.int)),y11,y12,y13,y14] (hq h p C)=.ok (.nx [d0,d1,some (.ref h.length),d3,d4,d5,d6,d7,d8,d9,some (.tup (xs.map D.int)),y11,some (.int s),y13,y14]) (hq h (cn p ((n:Int)+1)) C):=by
 have hl:=o.len
 have x:=yM (m:=(n:Int)+1) (p:=p) (h:=h) (t:=[.dit (encC C)]) (by constructor<;>lia)
 unfold hq
 simp[S14,hl,x,e]
theorem Fb (o:Ord n xs) (h1:1<=n) (hn:n<=19) (hs:s<=n) (w:Wf H):S15 [d0,d1,d2,d3,d4,d5,d6,d7,d8,d9,some (.tup (xs.map D.int)),y11,some (.int s),y13,y14] H=.ok (.nx [d0,d1,d2,d3,d4,d5,d6,d7,d8,d9,some (.tup (xs.map D.int)),y11,some (.int s),some (.tup ((aY xs n s).map D.int)),y14]) H:=by
 simp[S15,Ke o h1 (by lia) hs w]
theorem GN (o:Ord n xs) (h1:1<=n) (hn:n<=19) (hs:s<=n) (w:Wf H):S16 [d0,d1,d2,d3,d4,d5,d6,d7,d8,d9,some (.tup (xs.map D.int)),some (.tup ((bJ xs).map D.int)),some (.int s),y13,y14] H=.ok (.nx [d0,d1,d2,d3,d4,d5,d6,d7,d8,d9,some (.tup (xs.map D.int)),some (.tup ((bJ xs).map D.int)),some (.int s),y13,some (.int (fc (aY xs n s):Nat))]) H:=by
 have fm:=rQ (h:=H) o h1 (by lia) w
 have hl:=o.len
 have a:=rh (o:=xs) (s:=s) (by lia) (by lia)
 have f:=ie (m:=(n:Int)) xs s (fun x hx=>o.hi x hx) (by lia)
 have i:dIn true (.int s) (.tup ((bJ xs).map D.int)) H=.ok (.bl (!aJ xs s)) H:=by rw[Kk,a];rfl
 have e:(fc xs:Int)+(if aJ xs s=true then 0 else 1)=((fc (aY xs n s):Nat):Int):=by rw[f];split<;>simp
 generalize (bJ xs).map D.int=A at *
 generalize fc (aY xs n s)=F at *
 cases c:aJ xs s<;>rw[c] at e i<;>simp[S16,fm,i]<;>simp at e<;>lia
theorem G7 (o:Ord n xs) (h1:1<=n) (hn:n<=19) (w:Wf H):S17 [d0,d1,d2,d3,d4,d5,d6,d7,d8,d9,some (.tup (xs.map D.int)),y11,y12,some (.tup ((aY xs n s).map D.int)),some (.int (fc (aY xs n s):Nat))] H=.ok (.nx [d0,d1,d2,d3,d4,d5,d6,d7,d8,d9,some (.tup (xs.map D.int)),y11,y12,some (.tup ((aY xs n s).map D.int)),some (.int (fc (aY xs n s):Nat))]) H:=by
 have o2:=jO (s:=s) o
 have fm:=rQ (h:=H) o2 (by lia) (by lia) w
 have p1:=nz (h:=H) o h1 (by lia) w
 have p2:=nz (h:=H) o2 (by lia) (by lia) w
 have e:=BH (s:=s) o
 rw[jB] at e
 have ne:=neT (h:=H) (xs:=cH (aY xs n s))
 have lp:(cH xs).length=n:=by unfold cH;simp[o.len]
 have ad:aW ay (.tup ((cH xs).map D.int)) (.tup [.int (fc (aY xs n s):Nat)]) H=.ok (.tup ((cH (aY xs n s)).map D.int)) H:=by
  rw[e,Ou];simp[lp];lia
 generalize (cH (aY xs n s)).map D.int=A at *
 generalize (cH xs).map D.int=B at *
 generalize (aY xs n s).map D.int=Q at *
 generalize ((fc (aY xs n s):Nat):Int)=F at *
 simp[S17,fm,p1,p2,ad,ne]
theorem F0 (o:Ord n xs) (h1:1<=n) (hn:n<=19) (hs:s<=n) (w:Wf H):S18 [d0,d1,d2,d3,d4,d5,d6,d7,d8,d9,some (.tup (xs.map D.int)),y11,some (.int s),some (.tup ((aY xs n s).map D.int)),y14] H=.ok (.nx [d0,d1,d2,d3,d4,d5,d6,d7,d8,d9,some (.tup (xs.map D.int)),y11,some (.int s),some (.tup ((aY xs n s).map D.int)),y14]) H:=by
 have o2:=jO (s:=s) o
 have p1:=ud (h:=H) o h1 (by lia) w
 have p2:=ud (h:=H) o2 (by lia) (by lia) w
 have e:=De o hs
 have ob:=LD (h:=H) (B9 o2 (by lia) (by lia))
 rw[Et o2] at ob
 have ne:=neT (h:=H) (xs:=fF (aY xs n s))
 have ne2:=neT (h:=H) (xs:=aY xs n s)
 have lp:(fF xs).length=n:=by unfold fF;simp[o.len]
 have ad:aW ay (.tup ((fF xs).map D.int)) (.tup [.int s]) H=.ok (.tup ((fF (aY xs n s)).map D.int)) H:=by
  rw[e,Ou];simp[lp];lia
 generalize (fF (aY xs n s)).map D.int=A at *
 generalize (fF xs).map D.int=B at *
 generalize (aY xs n s).map D.int=Q at *
 simp[S18,p1,p2,ad,ne,ob,ne2]
end
theorem step:Bk:=by
 intro ns c y2 y3 y4 y5 y6 y7 y8 y9 y10 y11 y12 y13 y14 h w
 obtain⟨n,en,h1,hn⟩:=qV (iT c) (m:=6) (by decide)
 obtain⟨k,ek,hk⟩:=vt (cn (iT c) 6) (m:=n) (by lia)
 obtain⟨N,E⟩:=Ib n k h1 hn hk
 generalize hp1:cn (cn (iT c) 6) n=p1
 obtain⟨m,em,hm1,hm⟩:=qV p1 (m:=19) (by decide)
 generalize hxs:mD (cn p1 19) m=xs
 have o:Ord m xs:=by rw[<- hxs];exact AU _ _
 generalize hp2:lz (cn p1 19) m=p2
 obtain⟨s,es,hs⟩:=Kd p2 ((m:Int)+1) (by lia)
 have en':(1:Int)+cE (iT c) 6=n:=en
 have em':(1:Int)+cE p1 19=m:=em
 have ek':cE (cn (iT c) 6) n=k:=ek
 have wp:=BJ w p1
 obtain⟨z8,q9⟩:=Ko (d0:=some (.scr (ns.map D.int))) (d1:=some (.int c)) (d2:=some (.ref h.length)) (y5:=some (.int N)) (y8:=y8) (y9:=y9) (y10:=y10) (y11:=y11) (y12:=y12) (y13:=y13) (y14:=y14) E h1 (by lia) wp
 obtain⟨z9,q10⟩:=Fc (H:=h++[.lst (cD p1)]) (d0:=some (.scr (ns.map D.int))) (d1:=some (.int c)) (d2:=some (.ref h.length)) (y5:=some (.int N)) (y6:=some (.frl ((LS n k).map tpI))) (y8:=z8) (y9:=y9) (y10:=y10) (y11:=y11) (y12:=y12) (y13:=y13) (y14:=y14) E
 have hd:(0:Int)<n/\(n:Int)<=10 ^ 20:=by lia
 have q1:S1 [some (.scr (ns.map D.int)),some (.int c),y2,y3,y4,y5,y6,y7,y8,y9,y10,y11,y12,y13,y14] h=.ok (.nx [some (.scr (ns.map D.int)),some (.int c),some (.ref h.length),y3,y4,y5,y6,y7,y8,y9,y10,y11,y12,y13,y14]) (h++[.lst (cD (iT c))]):=by simp[S1]
 have q2:S2 [some (.scr (ns.map D.int)),some (.int c),some (.ref h.length),y3,y4,y5,y6,y7,y8,y9,y10,y11,y12,y13,y14] (h++[.lst (cD (iT c))])=.ok (.nx [some (.scr (ns.map D.int)),some (.int c),some (.ref h.length),some (.int n),y4,y5,y6,y7,y8,y9,y10,y11,y12,y13,y14]) (h++[.lst (cD (cn (iT c) 6))]):=by simp[S2,en']
 have q3:S3 [some (.scr (ns.map D.int)),some (.int c),some (.ref h.length),some (.int n),y4,y5,y6,y7,y8,y9,y10,y11,y12,y13,y14] (h++[.lst (cD (cn (iT c) 6))])=.ok (.nx [some (.scr (ns.map D.int)),some (.int c),some (.ref h.length),some (.int n),some (.int k),y5,y6,y7,y8,y9,y10,y11,y12,y13,y14]) (h++[.lst (cD p1)]):=by simp[S3,yM hd,ek',hp1]
 simp only[Hy] at q9 q10
 have q11:=Hx (h:=h) (p:=p1) (C:=cq n k) (d0:=some (.scr (ns.map D.int))) (d1:=some (.int c)) (d3:=some (.int n)) (d4:=some (.int k)) (d5:=some (.int N)) (d6:=some (.frl ((LS n k).map tpI))) (d7:=some (.ref (h++[O.lst (cD p1)]).length)) (d8:=z8) (d9:=z9) (y10:=y10) (y11:=y11) (y12:=y12) (y13:=y13) (y14:=y14) em' hm w
 rw[hxs,hp2] at q11
 have w2:=A9 (p:=p2) (C:=cq n k) w
 have w3:=A9 (p:=cn p2 ((m:Int)+1)) (C:=cq n k) w
 have hs':s<=m:=by lia
 have R:B2 [some (.scr (ns.map D.int)),some (.int c),y2,y3,y4,y5,y6,y7,y8,y9,y10,y11,y12,y13,y14] h=.ok (.nx [some (.scr (ns.map D.int)),some (.int c),some (.ref h.length),some (.int n),some (.int k),some (.int N),some (.frl ((LS n k).map tpI)),some (.ref (h++[O.lst (cD p1)]).length),z8,z9,some (.tup (xs.map D.int)),some (.tup ((bJ xs).map D.int)),some (.int s),some (.tup ((aY xs m s).map D.int)),some (.int (fc (aY xs m s):Nat))]) (hq h (cn p2 ((m:Int)+1)) (cq n k)):=by
  rw[Jp]
  simp only[IY,f_,LA,q1,q2,q3,JX E,JI E,JA E h1 hn wp,JF E,IT,q9,Hy,q10,q11,Ha o hm1 hm w2,FG o hm1 hm w2,G0 o hm es,Fb o hm1 hm hs' w3,GN o hm1 hm hs' w3,G7 o hm1 hm w3,F0 o hm1 hm hs' w3]
 exact⟨_,_,R,_,_,_,_,_,_,_,_,_,_,_,_,_,rfl,w3⟩
theorem Hl (ns:List Int) (hl:ns.length<=63):∃h,nJ [.scr (ns.map D.int)] []=.ok (.bl true) h:=HC step ns hl
end FC
open PySem PySem.W PyProof.Rows
local macro_rules | `(tactic| o_head $H)=>`(tactic| (refine holds_open (q:=FC.Q) (loose:=[("numbers_needed_triangle" : Str),("numbers_needed_listed" : Str)]) (Xt:=(fun s=>xlAt FC.Q [] s&&recOk (RowW.records (OpenRow.toRowW (OpenLaw.row PySem.Challenge.rw_fallcounts_k86_whole_draws))) s)) (XP:=XL FC.Q []) (Yf:=Hook.obs $H) (Ya:=Hook.val $H) (YP:=Hook.says $H) (N:=5158) (L2.FE.zr (by decide) (by kernel_rfl) (fun _=>by kernel_rfl) FC.IZ FC.Jw (fun w os=>by kernel_rfl)) (Hook.of $H) (Hook.keeps $H) (fun s e=>xl_of s (Bool.and_eq_true_iff.mp e).1) XL.keeps (by rfl) (by rfl) (by rfl) (fun s e=>recFacts_of (Bool.and_eq_true_iff.mp e).2) (by rfl) (by first | assumption | decide +kernel) (by decide +kernel) ⟨rfl,rfl,rfl,rfl,rfl,by decide +kernel⟩ ?hw ?hc))
set_option maxRecDepth 100000 in
set_option maxHeartbeats 0 in
theorem PySem.Challenge.cw_fallcounts_k86_whole_draws_holds : PySem.Challenge.rw_fallcounts_k86_whole_draws.Holds := by
 w_on;o_law;k_head;w_witness2
 k_fill
 refine FC.walk (l:=PySem.Challenge.rw_fallcounts_k86_whole_draws) rfl rfl (fun w h Y=>by first | exact PySem.W.kIn_of Y | exact PySem.W.km_in_of Y) (fun w h Y=>PySem.W.km_tabs_of Y) (fun _=>by kernel_rfl) FC.Hl ?F
 case F=>
  intro w mg fa h KX G hmg
  refine FC.all_mk KX G hmg (by kernel_rfl) ?T
  case T=>
   constructor
   all_goals first | (refine' L2.FE.HV ?a ?l ?c ?k;(case a=>k_is);(case l=>k_is);(case c=>k_is);(case k=>k_is)) | (refine' L2.FE.DY ?a ?l ?c ?k;(case a=>k_is);(case l=>k_is);(case c=>k_is);(case k=>k_is)) | (refine' L2.FE.Iw ?a ?l ?c ?k ?h1 ?h2 ?h3;(case a=>k_is);(case l=>k_is);(case c=>k_is);(case k=>k_is);(case h1=>kernel_rfl);(case h2=>kernel_rfl);(case h3=>kernel_rfl)) | exact⟨_,rfl⟩ | k_is
