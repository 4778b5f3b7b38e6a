import PyProof.Rows.All
import Wide.All
import OpenK.AllK
import Wide.FinOn
import Lean
import KE.KNestM
import PyProof.EqAt
import PyProof.EqKinds
import PyProof.TupleCall
import PyProof.EnumMake
import PyProof.Draws
import KE.KDictList
import KE.KTryMore
import KE.KEqDict
import PyProof.ExcInit
import PyProof.InstStoreFacts
import KE.KSortTup
import PySem.Challenge.RW_fallcounts_k21_orders_listed
set_option Elab.async false
set_option linter.all false
set_option maxRecDepth 100000
set_option maxHeartbeats 8000000
open PySem renaming wpAny_bind→gV,wpAny_pure→NG,Value→NI,Shared→NM,Program→NT,wpAny_mono→N6,wpAny_holding→N9,Around→Oa,World→Oe,wpAny_newObj_type→Of,Builtin→Ow,wpAny_call_entry→OA,boot_len→OG,wpAny_callSpecial?_slot→OH,SetTable→ON,wpAny_standAt→OV,sizeLine_eq→OY,wpAny_setState_of→Pr,wpAny_typeNameOfWhole_keyiter→Px,codeAny_mono→PF,wpAny_truthy_bool→PH,codeAny_builtin→PN,NameKind→PQ,wpAny_newFunctionEnv_cells→PX,wpAny_field→P7,FuncData→P_,mem_of_lookup→Qj,wpAny_attempt→Ql,wpAny_askSetting→Qo,wpAny_setField→Qq,wpAny_Call_Name_kw→Qt,codeAny_call_function→Qy,wpAny_call→QF,wpAny_loadPart_at→QH,codeAny_call_builtin→QM,lookup_relabel_local→QN,wpAny_typeOf→QZ,wpAny_execs_nil→Q8,wpAny_passesOwn→Q_,wpAny_pyIter_tuple→Rf,wpAny_newList→Ri,wpAny_pyIter_enum→Ry,wpAny_loadPart→RC,Within→RG,wpAny_execs_cons→RM,wpAny_loadName_local→RQ,PyData→RT,wpAny_newFunctionEnv→RU,Scope→R0,codeAny_of_tree→R5,tupleKind_room_in1→Sb,wpAny_setField_rec→Se,wpAny_seqItems→Sg,wpAny_Name→Sk,wpAny_assign_Name→Sl,PassesOwn→Sm,call_meets→Sq,wpAny_pyIter_list→Su,wpAny_pyIter_slot→Sv,wpAny_dictEntries→Sw,wpAny_noRaise→SG,wpAny_of_eq→SI,noFill_tuple_add→SQ,wpAny_isInstance→SU,wpAny_forIn_list→SW,codeAny_func→SY,seqIndex_neg→S0,wpAny_loadPart'→S4,wpAny_specialOf→S5,wpAny_dictEpoch→Tc,wpAny_ite_split→Td,wpAny_rule→Tf,wpAny_runValue→Tn,wpAny_fieldsOf→To,seqIndex_of→Tr,Arguments→Tz,seq_tuple_add→TB,IsPart→TF,wpAny_handled→TH,OsState→TN,BindsTo→TR,concat_meets→TV,codeAny_loop→TX,Keyword→T7,wpAny_noted→T8,wpAny_throw→T_,wpAny_load→Uc,typeIs_int→Ue,call→Uh,DictEntry→Um,Walks→Ur,ItemsOf→Us,OwnTail→Uu,IsEnum→Uv
open PySem.W renaming Frag→ND,mg_none_of→Ol,keepIn→Om,nsIn→Oz,kia_one→OL,fnOf→OP,envX→O_,kitOne→Pd,boot_heap→Pe,codeHdIn→Pj,hideAll_get→Po,kla_obj→Pw,cellsFrom_some→PR,codeIn→QP,tabObj→QR,of_hideAll→Q6,callWith_K→Ra,looks_findIn→RJ,hideAll→RZ,mg_of→R_,codeRec_of→Sa,KdlSrc→Sh,methodObj→Sj,kitx_dict→Sn,excIn→SJ,instObj→SX,boot_drawn→Te,lookIn→Th,looks_clsIn→Tt,boot_toks→Tw,any_some→TL,looks_mroIn→Ub,check_slot→Ui,SharedT→Uj,OpenLaw→Uk
open PySem.Heap renaming get?_push_of_some→NF,lt_size→NJ,get?_push_size→NN,get?_update_self→Oy,get?_update_other→OQ,SameBut→PC,get?_none_of_le→QL,get?_update_ne→R6,ExtBut→T9
open List renaming mem_cons_of_mem→NH,mem_cons_self→NO,mem_append_right→NP,range→NQ,map_cons→NR,mem_cons→NV,pairwise_iff_getElem→NW,length_map→NY,all_eq_true→NZ,getElem?_eq_getElem→N0,replicate→N1,getElem?_append_right→N8,mem_singleton→N_,mem_of_getElem?→Oc,pairwise_append→Od,getElem?_map→Oh,pairwise_cons→Oi,getElem?_append_left→Oo,drop_eq_getElem_cons→Ot,mem_append→Ou,mem_map→Ov,nodup_cons→Ox,length_append→OF,length_cons→OJ,eq_nil_of_length_eq_zero→OM,getElem?_eq_some_iff→OO,length_take→OT,size_toArray→OW,append_assoc→OX,mem_range→O1,append_nil→O2,getElem?_eq_none_iff→O5,map_congr_left→O8,map_map→Pa,any_cons→Pf,pairwise_singleton→Pg,take_of_length_le→Pl,getElem_of_mem→Pq,filter_cons→Py,mem_append_left→Pz,pairwise_map→PJ,range_eq_range'→Qa,mem_filter→Qc,foldl_cons→Qg,ext_getElem?→Qi,prefix_refl→Qm,take_append_of_le_length→Qp,of_mem_zip→Qx,find?_cons→Qz,nil_append→QA,take_append_drop→QB,flatMap_cons→QJ,drop_drop→QT,mem_flatMap→QU,filterMap_cons→QV,replicate_succ→QW,mem_filterMap→Q9,all_cons→Rc,take_left'→Rj,length_eq_zero_iff→Rl,range_succ→Ro,getElem?_set_self→Rp,drop_eq_nil_of_le→Rr,drop_of_length_le→Rt,filter_eq_nil_iff→Rv,length_range→RA,filter_congr→RB,ext_getElem→RN,getElem_mem→RP,mem_iff_getElem→RV,getElem?_range→R1,filter_eq_self→R4,map_append→R7,filter_filter→Sf,getElem?_set→Ss,getElem_take→Sx,range'→SH,Pairwise→SK,sum_cons→SO,any_eq_true→SS,nodup_range→SV,map_nil→S3,Perm→S_,nodup_nil→Ti,drop_zero→Tp,foldl→Ug,take→Uq,set→Uw
open Nat renaming le_refl→NK,ne_of_lt→NU,le_trans→N4,lt_of_lt_of_le→N7,zero_le→OI,lt_irrefl→O7,lt_or_eq_of_le→Ph,ne_of_gt→Pu,lt_succ_self→P2,zero_add→P5,not_lt_of_le→Qn,le_of_lt_succ→QI,mul_le_mul_right→QO,lt_trans→Q0,not_lt_zero→Rh,le_of_lt→RH,lt_or_ge→RK,mod_lt→Sz,lt_succ_of_lt→SD,succ_le_succ→SR,le_succ→Ts,not_lt→TU,mul_comm→TY,beq→Ua,blt→Ut
open Eq renaming trans→NS
open Array renaming length_toList→NX,getElem_mem→Oj,getElem?_toList→Oq,getElem?_eq_getElem→Pt,getElem?_eq_some_iff→PZ,mem_toList_iff→P9,getElem?_eq_none→Qr,toList_push→Sy
open PySem.Challenge renaming pw_fallcounts_k21_orders_listed→N2
open PyProof.Rows renaming SortSt→N3,slot_tuple_getitem→OB,Keyed→OC,boot_repr→Pn,callWith_type1→PL,boot_list→PU,boot_isinstance→Qu,SortKind→Rk,boot_int→RL,listUpdate_at→RX,AllBare→SE,listItems_at→S8,get?_update_seq→S9,seqEpoch_at→Tu,Subscript_→Ud
open Bool renaming and_eq_true→N5,false_ne_true→Og,eq_iff_iff→S6
open PySem.Value renaming ref→Ob,none→OS,int→Qw,bool→RY,type→Si,str→Tx,isInt→T5
open PySem.PassesOwn renaming never→OD
open PySem.Obj renaming data_mapFields→OE,isFreed_of_fields→O9,mapSeq→Qf,mapFields→Qk,cls_mapFields→Sr
open PySem.SetTable renaming bits→OR,below→OU,runEnd→O6,insertAt→Pb,leap→PB,turns→P8,Probe→RD,grown→RE,advance→RO,sizeAbove→Sd,fresh→Tq,fill→TM
open Int renaming mul_le_mul_of_nonneg_right→OZ,toNat_natCast→Rx,natCast_add→R9,pow_pos→SN,le_of_lt→T4
open PySem.SeqAt renaming EqAt→O0,RcNeAt→TJ
open PySem.F renaming slot_dict_keyiterator_next→Pc,slot_tuple_iterator_next→PY,excBase_ValueError→P0,called_set→QC,args_tuple_add_2→QY,slot_list_append→Q4,type_list_append→Q5,entry_tuple_add→Rb,slot_tuple_add→Rq,slot_dict_get→RI
open Option renaming map_eq_some_iff→Pk,isSome_iff_exists→Qd,map→TQ
open PySem.Heap.SameBut renaming update→Pp
open ForInStep renaming yield→PM
open PySem.W.Fast renaming tw5923862056798008813→PV
open True renaming intro→P1
open PySem.PyData renaming int→P4,tuple→QD,depth→Q1,leavesShort→Rg,bulkAll→RF,showable→R3,bulk→R8,depthAll→S7,hasDict→Tj,list→Tv,shown→T3
open PySem.Builtin.Slice renaming slicePlaces→P6,sliceAdjust→QQ
open Option.some renaming inj→Qb
open PySem.Builtin.Tuple renaming tupleExact→Qe
open PySem.Builtin.List renaming listTooLong→Qh
open PySem.Calls renaming spliced_cons→Qs,Name_function_global→QK,spliced_nil→So
open PySem.Code renaming quiet_builtin→Qv
open False renaming elim→QE
open PySem.NameKind renaming free→QG
open PySem.Builtin.Int renaming intBits→QX
open List.Pairwise renaming imp_of_mem→Q3,nil→Rw
open Ne renaming symm→Q7
open PyProof.Rows.F renaming plain_set_update_loop→Rm
open PySem.SetTable.layClean renaming free→Ru
open PySem.Within renaming cons→Rz
open PySem.Around renaming frames_deeper→RR,under_plainId→RW
open PySem.SeqAt.EqAt renaming bool_bool→RS
open PySem.SetTable.probe renaming go→SA
open List.cons renaming injEq→Ta
open PySem.W.Looks renaming here→Tg
open PySem.pickOrder renaming go→TZ
open Sum renaming inl→T6,inr→Ul
open PySem.Expr renaming Name→Uo
open Or renaming inl→Up
namespace L2.FE
open PySem PySem.W PySem.Calls
noncomputable def DZ:List Obj->BT->Nat->Option BT
 | [],t,_=>some t
 | o::r,t,n=>match ((t.ins n o).get n).isSome with
  | true=>DZ r (t.ins n o) (n+1)
  | false=>none
theorem uQ {life:Life}:∀{r:List Obj}{t T:BT}{n:Nat}{a:Array Obj},DZ r t n=some T->absHeap t n life=⟨a,life⟩->absHeap T (n+r.length) life=⟨a++r.toArray,life⟩
 | [],t,T,n,a,h,e=>by cases h;simpa using e
 | o::r,t,T,n,a,h,e=>by
  unfold DZ at h
  cases g:((t.ins n o).get n).isSome with
  | false=>rw[g] at h;cases h
  | true=>
   rw[g] at h
   have x:absHeap (t.ins n o) (n+1) life=⟨a.push o,life⟩:=by rw[absHeap_ins g,e];rfl
   have:=uQ h x
   rw[OJ,show n+(r.length+1)=n+1+r.length by omega,this]
   simp
noncomputable def xm (p:NT) (w:Oe) (n₀:Nat) (ann:Option NI):Nat->Uj->Thread->Option Uj
 | 0,_,_=>none
 | n+1,s,t=>match through t with
  | true=>some s
  | false=>match PySem.W.Fast.tw6613529449190102663 n₀ ann t with
   | false=>none
   | true=>match PySem.W.Fast.tw10156331382660048174 (PySem.W.Fast.tw11892475500146522536 PySem.W.Fast.tw14364793385576792824) p w s t with
    | some (s',t')=>xm p w n₀ ann n s' t'
    | none=>none
theorem uY {p:NT}{w:Oe}{n₀:Nat}{ann:Option NI}:∀{n:Nat}{s r:Uj}{t:Thread},xm p w n₀ ann n s t=some r->topRun treeTable p w n₀ ann n s.abs t=some r.abs
 | 0,_,_,_,h=>by cases h
 | n+1,s,r,t,h=>by
  unfold xm at h
  unfold topRun
  cases ht:through t with
  | true=>rw[ht] at h;cases h;rfl
  | false=>
   rw[ht,<- PySem.W.Fast.te6613529449190102663] at h
   cases hk:stepOk n₀ ann t with
   | false=>simp only[hk] at h;cases h
   | true=>
    simp only[hk] at h
    rw[<- PySem.W.Fast.te10156331382660048174,<- PySem.W.Fast.te11892475500146522536,<- PySem.W.Fast.te14364793385576792824] at h
    cases hs:stepT (denote treeTable) p w s t with
    | none=>rw[hs] at h;cases h
    | some x=>obtain⟨s₂,t₂⟩:=x;rw[hs] at h;rw[stepT_spec hs];exact uY h
noncomputable def p9 (p:NT) (w:Oe) (N:Nat) (os:TN):Option Uj:=
 match (Pe w.params).isNs mainGlobals with
 | true=>(DZ (Pe w.params).objs.toList .nil 0).bind fun T=>xm p w (Pe w.params).objs.size ((Pe w.params).nsMap mainGlobals (Str.ofString "__annotations__")) N ⟨T,(Pe w.params).objs.size,(Pe w.params).life,#[],Te,Tw,os⟩ (topStub p)
 | false=>none
noncomputable def Dh (p:NT) (w:Oe) (s₁:NM):Bool:=staticsOk (PV p.main.body) (Pe w.params) s₁.heap&&namesBound p s₁.heap&&gensDone s₁&&laidKept (Pe w.params) s₁.heap
def zP {p q:NT}{loose:List Str}{Xt:NM->Bool}{α:Type}{Yf:NM->α}{Ya:Oe->α}{N:Nat} (hN:Nat.ble 600 N=true) (e:opening p=plainProg p.main.scope.names) (f:∀s,fenceModules? p s=some s)
  (h1:∀(w:Oe) (os:TN),(p9 p w N os).map (fun s=>Dh p w s.abs)=some true)
  (h2:∀(w:Oe) (os:TN),(p9 p w N os).map (fun s=>PySem.W.Fast.tw4187177175401517315 q loose (PV p.main.body) Xt true s.abs)=some (openGood q loose))
  (h3:∀(w:Oe) (os:TN),(p9 p w N os).map (fun s=>Yf s.abs)=some (Ya w)):LeftO p q loose Xt Yf Ya N:=fun w=>by
 obtain⟨s,hs,e'⟩:=Pk.mp (boot_open e hN f w)
 obtain⟨H,gs,d,k,os⟩:=s
 obtain⟨rfl,rfl,rfl,rfl⟩:H=Pe w.params/\gs=_/\d=Te/\k=Tw:=by simpa using e'
 obtain⟨r,hr,l1⟩:=Pk.mp (h1 w os)
 obtain⟨r2,hr2,l2⟩:=Pk.mp (h2 w os)
 obtain⟨r3,hr3,l3⟩:=Pk.mp (h3 w os)
 obtain rfl:r=r2:=Qb (hr.symm.trans hr2)
 obtain rfl:r=r3:=Qb (hr.symm.trans hr3)
 unfold Dh at l1
 rw[<- PySem.W.Fast.te5923862056798008813] at l1
 rw[<- PySem.W.Fast.te4187177175401517315,<- PySem.W.Fast.te5923862056798008813] at l2
 unfold p9 at hr
 cases hn:(Pe w.params).isNs mainGlobals with
 | false=>rw[hn] at hr;cases hr
 | true=>
  rw[hn] at hr
  obtain⟨T,hT,hr⟩:=Option.bind_eq_some_iff.mp hr
  have z:=uQ (life:=(Pe w.params).life) (n:=0) (a:=#[]) hT rfl
  have z':absHeap T (Pe w.params).objs.size (Pe w.params).life=Pe w.params:=by
   rw[P5,NX] at z
   rw[z]
   simp
  have hr:=uY hr
  have st:(Uj.mk T (Pe w.params).objs.size (Pe w.params).life #[] Te Tw os).abs=⟨Pe w.params,#[],Te,Tw,os⟩:=by
   show NM.mk _ _ _ _ _=_
   rw[z']
  rw[st] at hr
  unfold openEnds
  rw[hs]
  show TQ _ (topFrom treeTable p w N _)=_
  have t:topFrom treeTable p w N ⟨Pe w.params,#[],Te,Tw,os⟩=some r.abs:=by
   unfold topFrom
   dsimp only
   rw[hn]
   rw[hr]
   show(match staticsOk (importedModules p.main.body) (Pe w.params) r.abs.heap&&namesBound p r.abs.heap&&gensDone r.abs&&laidKept (Pe w.params) r.abs.heap with | true=>_ | false=>_)=_
   rw[l1]
  rw[t]
  show some (openSeen q loose (importedModules p.main.body) Xt true r.abs,Yf r.abs)=_
  rw[l2,l3]
noncomputable def viewOf (p:NT) (keep:List Nat):NT:={ p with main:={ p.main with body:=keep.filterMap fun i=>p.main.body[i]? } }
end L2.FE
section
open PySem PySem.W PyProof.Rows
noncomputable def FC.Q:NT:=L2.FE.viewOf N2 [1,2,3,4,5,6,7,8,10,11,12,14,16,17,18,19,20,21,22,23,24,25,26,27,29,30,31,32,33,34,35,36,37,38,39,40,41]
def FC.JC:∀(w:Oe) (os:TN),(L2.FE.p9 N2 w 5326 os).map (fun s=>L2.FE.Dh N2 w s.abs)=some true:=fun w os=>by kernel_rfl
def FC.KN:∀(w:Oe) (os:TN),(L2.FE.p9 N2 w 5326 os).map (fun s=>PySem.W.Fast.tw4187177175401517315 FC.Q [] (PV N2.main.body) (fun s=>xlAt FC.Q [] s&&recOk (RowW.records (OpenRow.toRowW (Uk.row PySem.Challenge.rw_fallcounts_k21_orders_listed))) s) true s.abs)=some (openGood FC.Q []):=fun w os=>by kernel_rfl
end
namespace L2
open PySem PySem.Spec PyProof.Rows
noncomputable abbrev Key:=Sum Int Str
noncomputable def qj:Key->NI->Bool
 | .inl k,v=>T5 k v
 | .inr x,v=>NI.isStrOf x v
noncomputable def Ml (w:Oe):Key->Int
 | .inl k=>hashInt k
 | .inr x=>hashStr w x
def bJ:∀{k:Key}{v:NI},qj k v=true->(∃i t,k=T6 i/\v=Qw i t)\/(∃x t,k=Ul x/\v=Tx x t)
 | .inl i,v,h=>by
  obtain⟨t,e⟩:=NI.isInt_shape (k:=i) (v:=v) h
  simp_all
 | .inr x,v,h=>by
  obtain⟨t,e⟩:=NI.isStrOf_shape (x:=x) (v:=v) h
  simp_all
def zO (i:Int) (t:Tok):qj (.inl i) (.int i t)=true:=by simp[qj,T5]
def Al (x) (t):qj (.inr x) (.str x t)=true:=by simp[qj,NI.isStrOf]
def Iq (a b):decide ((T6 a:Key)=T6 b)=(a == b):=by
 grind
def Hc (a b):decide ((Ul a:Key)=Ul b)=decide (a=b):=by
 simp
def Iw (a:Int) (b:Str):decide ((T6 a:Key)=Ul b)=false:=decide_eq_false (fun q=>nomatch q)
def Hg (a:Str) (b:Int):decide ((Ul a:Key)=T6 b)=false:=decide_eq_false (fun q=>nomatch q)
noncomputable def bM (prog) (w):PySem.KeyKind prog w Key where
 is:=qj
 hash:=Ml w
 inj:=fun v a b ha hb=>by
  rcases bJ ha with⟨i,t,rfl,rfl⟩ | ⟨x,t,rfl,rfl⟩
  ·rcases bJ hb with⟨j,u,rfl,e⟩ | ⟨y,u,rfl,e⟩
   ·injection e with e1 _;rw[e1]
   ·exact nomatch e
  ·rcases bJ hb with⟨j,u,rfl,e⟩ | ⟨y,u,rfl,e⟩
   ·exact nomatch e
   ·injection e with e1 _;rw[e1]
 byValue:=fun k v h=>by
   rcases bJ h with⟨i,t,rfl,rfl⟩ | ⟨x,t,rfl,rfl⟩<;>rfl
 pyHash:=fun hv h=>by
  rcases bJ hv with⟨i,t,rfl,rfl⟩ | ⟨x,t,rfl,rfl⟩
  ·exact wpAny_pyHash_int h
  ·exact wpAny_pyHash_str h
 eqBool:=fun hu hv h=>by
  rcases bJ hu with⟨i,t,rfl,rfl⟩ | ⟨x,t,rfl,rfl⟩
  ·rcases bJ hv with⟨j,u,rfl,rfl⟩ | ⟨y,u,rfl,rfl⟩
   ·rw[Iq] at h;exact wpAny_eqBool_int h
   ·rw[Iw] at h;exact O0.int_str i t y u _ _ _ _ h
  ·rcases bJ hv with⟨j,u,rfl,rfl⟩ | ⟨y,u,rfl,rfl⟩
   ·rw[Hg] at h;exact O0.str_int x t j u _ _ _ _ h
   ·rw[Hc] at h;exact wpAny_eqBool_str h
 «strs»:=fun k x t v h=>by
  rcases bJ h with⟨i,u,rfl,e⟩ | ⟨y,u,rfl,e⟩
  ·exact nomatch e
  ·injection e with e1 _
   subst e1
   cases v<;>rfl
def ve (prog) (w) (i) (t):(bM prog w).is (.inl i) (.int i t)=true:=zO i t
def u_ (prog) (w) (x) (t):(bM prog w).is (.inr x) (.str x t)=true:=Al x t
inductive V where
 | non | bl (b:Bool) | int (i:Int) | str (x:Str) | byt (b:Array UInt8) | flt (b:UInt64) | ref (a:Addr) | ty (n:String)
 deriving DecidableEq
def RelV:V->NI->Prop
 | .non,u=>u=OS
 | .bl b,u=>u=RY b
 | .int i,u=>∃t,u=Qw i t
 | .str x,u=>∃t,u=Tx x t
 | .byt b,u=>∃t,u=NI.bytes b t
 | .flt b,u=>∃t,u=NI.float b t
 | .ref a,u=>u=Ob a
 | .ty n,u=>u=Si n
abbrev Vals:List V->List NI->Prop:=Paired RelV
theorem Vals.length (r:Vals xs us):xs.length=us.length:=Paired.length r
theorem Vals.get:∀{xs:List V}{us:List NI}{i:Nat}{x:V},Vals xs us->xs[i]?=some x->∃u,us[i]?=some u/\RelV x u
 | _,_,_,_,.nil,e=>by simp at e
 | _,_,0,_,.cons r _,e=>by simp_all
 | _,_,i+1,x,.cons _ t,e=>by
  obtain⟨u,h1,h2⟩:=Vals.get (i:=i) (x:=x) t (by simp_all)
  simp_all
theorem Vals.set {x:V}{u:NI} (r:RelV x u):∀{xs:List V}{us:List NI} (i:Nat),Vals xs us->Vals (xs.set i x) (us.set i u)
 | _,_,_,.nil=>.nil
 | _,_,0,.cons _ t=>.cons r t
 | _,_,i+1,.cons q t=>.cons q (Vals.set r i t)
theorem Vals.append:∀{xs ys:List V}{us ws:List NI},Vals xs us->Vals ys ws->Vals (xs++ys) (us++ws)
 | _,_,_,_,.nil,s=>s
 | _,_,_,_,.cons r t,s=>.cons r (Vals.append t s)
theorem Vals.take:∀{xs:List V}{us:List NI} (n:Nat),Vals xs us->Vals (xs.take n) (us.take n)
 | _,_,0,_=>.nil
 | _,_,_+1,.nil=>.nil
 | _,_,n+1,.cons r t=>.cons r (Vals.take n t)
theorem Vals.drop:∀{xs:List V}{us:List NI} n , Vals xs us->Vals (xs.drop n) (us.drop n)
 | _,_,0,r=>r
 | _,_,_+1,.nil=>.nil
 | _,_,n+1,.cons _ t=>Vals.drop n t
def ja:Option V->Option NI->Prop
 | some v,some u=>RelV v u
 | none,none=>True
 | _,_=>False
def KV:List (κ × V)->List (κ × NI)->Prop:=Paired fun(p:κ × V) (q:κ × NI)=>p.1=q.1/\RelV p.2 q.2
noncomputable def kV:Key->V
 | .inl i=>.int i
 | .inr x=>.str x
inductive HO where
 | lst (xs:List V)
 | tup (xs:List V)
 | dK (kvs:List (Key × V)) | dT (kvs:List (List Key × V))
 | set (S:Int->Bool) (n:Nat)
 | ins (C dx:Addr) (fs:List (Str × V))
 | own (x:Addr)
 | xd (fs:List (Str × V))
 | met (f x:Addr)
 | rng (lo hi:Int)
 | frz (o:Obj) (u:HO)
 | tbl (ps:Array NI)
 | ext (φ:Heap->Prop)
noncomputable abbrev Hp:=Addr->Option HO
noncomputable def upd (H:Hp) (a:Addr) (o:HO):Hp:=fun b=>if b=a then some o else H b
def aL:upd H a o a=some o:=by unfold upd;simp
def aw (h:b≠a):upd H a o b=H b:=by unfold upd;simp_all
def F8 {H:Hp} (h:H a=some o) (h':H b=some u) (d:o≠u):a≠b:=by
 grind
def aE {H:Hp} (h:H a=some o) (h':H b=none):a≠b:=by
 grind
def mQ (h:Heap) (a:Addr) (its:Array NI):Prop:=∃o,h.get? a=some o/\(o.cls=.type "tuple" /\ ∃n,o.data=.seq its n)/\o.dict=none
def mQ.tup {h:Heap}{a:Addr}{its:Array NI} (x:mQ h a its):IsTup h a its:=let ⟨o,e,⟨c,n,d⟩,_⟩:=x;⟨o,e,c,n,d⟩
def mQ.new (h:Heap) (its):mQ (h.push { cls:=.type "tuple", data:=.seq its }) h.objs.size its:=⟨_,NN _ rfl,⟨rfl,_,rfl⟩,rfl⟩
section
variable (P:NT) (w:Oe)
def a_ (H:Hp) (h:Heap) (a:Addr):HO->Prop
 | .lst xs=>xs.length<=sizeLine/\∃its n,Vals xs its/\h.get? a=some { cls:=.type "list", data:=.seq its.toArray n }
 | .tup xs=>xs.length<=sizeLine/\∃its:List NI,Vals xs its/\mQ h a its.toArray
 | .dK kvs=>kvs.length<=sizeLine/\(a == sysModules)=false/\∃vs,KV kvs vs/\h.DictOf (bM P w) a vs
 | .dT kvs=>kvs.length<=sizeLine/\(a == sysModules)=false/\∃xs:List (List Key × Addr × NI),
   Paired (fun(p:List Key × V) (q:List Key × Addr × NI)=>p.1=q.1/\H q.2.1=some (.tup (p.1.map kV))/\RelV p.2 q.2.2) kvs xs ∧
   ∃o es ep,h.get? a=some o/\o.ExactDict/\o.data=.dict es ep/\es.toList=xs.map (entryOfKey (tupleKind (bM P w)))/\(xs.map (·.1)).Nodup
 | .set S n=>h.SetOf (intKind P w) a S n
 | .ins C dx fs=>H dx=some (.own a)/\fs.length<=1000/\dx≠a/\h.get? a=some (SX C dx) ∧
   ∃mA,h.Ns1 dx mA/\(∀f,ja (fs.lookup f) (mA f))/\RG mA (fs.map (·.1))
 | .own _=>∃o,h.get? a=some o
 | .xd fs=>∃mA,h.Ns1 a mA/\∀f,ja (fs.lookup f) (mA f)
 | .rng lo hi=>∃t u v,h.get? a=some { cls:=.type "range", data:=.fields #[.int lo t,.int hi u,.int 1 v] }
 | .frz o u=>h.get? a=some o/\a_ H h a u
 | .tbl ps=>h.get? a=some { cls:=.none,data:=.fields ps }
 | .met f x=>h.get? a=some (Sj (.ref f) (.ref x))
 | .ext φ=>φ h/\(∃o,h.get? a=some o)/\∀h1 h2:Heap,φ h1->(∀o,h1.get? a=some o->h2.get? a=some o)->φ h2
def HOk (H:Hp) (h:Heap):Prop:=∀a o,H a=some o->a_ P w H h a o
end
section
variable {P:NT}{w:Oe}{H H':Hp}{h h':Heap}{a:Addr}{o:HO}
def a_.lt (x:a_ P w H h a o):a<h.objs.size:=by
 cases o with
 | lst xs=>obtain⟨_,_,_,_,e⟩:=x;exact NJ e
 | tup xs=>obtain⟨_,_,_,_,e,_⟩:=x;exact NJ e
 | dK kvs=>obtain⟨_,_,_,_,o,_,_,e,_⟩:=x;exact NJ e
 | dT kvs=>obtain⟨_,_,_,_,o,_,_,e,_⟩:=x;exact NJ e
 | set S n=>obtain⟨o,_,_,_,e,_⟩:=x;exact NJ e
 | ins C dx fs=>obtain⟨_,_,_,e,_⟩:=x;exact NJ e
 | own y=>obtain⟨_,e⟩:=x;exact NJ e
 | xd fs=>obtain⟨_,⟨_,_,_,e,_⟩,_⟩:=x;exact NJ e
 | rng lo hi=>obtain⟨_,_,_,e⟩:=x;exact NJ e
 | frz ob u=>obtain⟨e,_⟩:=x;exact NJ e
 | tbl ps=>exact NJ (show h.get? a=some _ from x)
 | met f y=>exact NJ (show h.get? a=some _ from x)
 | ext φ=>obtain⟨_,⟨_,e⟩,_⟩:=x;exact NJ e
theorem Paired.oY {α β:Type}{F G:α->β->Prop}:∀{l₁:List α}{l₂:List β},Paired F l₁ l₂->(∀a b,F a b->G a b)->Paired G l₁ l₂
 | _,_,.nil,_=>.nil
 | _,_,.cons r t,f=>.cons (f _ _ r) (Paired.oY t f)
def a_.iy (x:a_ P w H h a o) (k:∀b u,(b=a\/H b=some (.own a))->h.get? b=some u->h'.get? b=some u)
  (ho:∀b,H b=some (.own a)->H' b=some (.own a)) (ht:∀b xs,H b=some (.tup xs)->H' b=some (.tup xs)):a_ P w H' h' a o:=by
 induction o with
 | lst xs=>obtain⟨z,its,n,r,e⟩:=x;exact⟨z,its,n,r,k _ _ (.inl rfl) e⟩
 | tup xs=>obtain⟨z,its,r,ob,e,c⟩:=x;exact⟨z,its,r,ob,k _ _ (.inl rfl) e,c⟩
 | dK kvs=>obtain⟨z,y,vs,r,ob,es,ep,e,c⟩:=x;exact⟨z,y,vs,r,ob,es,ep,k _ _ (.inl rfl) e,c⟩
 | dT kvs=>
  obtain⟨z,y,xs,r,ob,es,ep,e,c⟩:=x
  exact⟨z,y,xs,Paired.oY r fun p q z=>⟨z.1,ht _ _ z.2.1,z.2.2⟩,ob,es,ep,k _ _ (.inl rfl) e,c⟩
 | set S n=>obtain⟨ob,es,ep,t,e,c⟩:=x;exact⟨ob,es,ep,t,k _ _ (.inl rfl) e,c⟩
 | ins C dx fs=>
  obtain⟨d,z,ne,e,mA,⟨od,es,ep,e2,c⟩,r⟩:=x
  exact⟨ho _ d,z,ne,k _ _ (.inl rfl) e,mA,⟨od,es,ep,k _ _ (.inr d) e2,c⟩,r⟩
 | own y=>obtain⟨ob,e⟩:=x;exact⟨ob,k _ _ (.inl rfl) e⟩
 | xd fs=>obtain⟨mA,⟨od,es,ep,e,c⟩,r⟩:=x;exact⟨mA,⟨od,es,ep,k _ _ (.inl rfl) e,c⟩,r⟩
 | rng lo hi=>obtain⟨t,u,v,e⟩:=x;exact⟨t,u,v,k _ _ (.inl rfl) e⟩
 | frz ob u ih=>obtain⟨e,q⟩:=x;exact⟨k _ _ (.inl rfl) e,ih q⟩
 | tbl ps=>
  have e:h.get? a=some { cls:=.none,data:=.fields ps }:=x
  show h'.get? a=some { cls:=.none,data:=.fields ps }
  simp_all
 | met f y=>
  have e:h.get? a=some (Sj (.ref f) (.ref y)):=x
  show h'.get? a=some (Sj (.ref f) (.ref y))
  simp_all
 | ext φ=>obtain⟨p,⟨o,e⟩,st⟩:=x;exact⟨st _ _ p fun o q=>k _ _ (.inl rfl) q,⟨o,k _ _ (.inl rfl) e⟩,st⟩
theorem HOk.lt (x:HOk P w H h) (e:H a=some o):a<h.objs.size:=(x a o e).lt
def HOk.fresh (x:HOk P w H h) (e:h.objs.size<=a):H a=none:=by
 cases q:H a with
 | none=>rfl
 | some u=>exact absurd (N7 (x.lt q) e) (O7 _)
def HOk.kept (x:HOk P w H h) (k:∀b u,h.get? b=some u->h'.get? b=some u):HOk P w H h':=fun a o e=>
 (x a o e).iy (fun b u _ q=>k b u q) (fun _ q=>q) fun _ _ q=>q
def HOk.laid (x:HOk P w H h) (k:∀b u,h.get? b=some u->h'.get? b=some u) (hp:h.objs.size<=a) (new:a_ P w (upd H a o) h' a o):HOk P w (upd H a o) h':=fun b u e=>by
 have hn:=x.fresh hp
 by_cases hb:b=a
 ·subst hb;rw[aL] at e;simp_all
 ·rw[aw hb] at e
  exact(x b u e).iy (fun c v _ q=>k c v q) (fun c q=>by rw[aw (aE q hn)];exact q) fun c xs q=>by rw[aw (aE q hn)];exact q
end
def Rd (H:Hp) (a:Addr) (u:HO):Prop:=H a=some u\/∃o,H a=some (.frz o u)
def Rd.ok (r:Rd H a u) (x:HOk P w H h):a_ P w H h a u:=by
 rcases r with r | ⟨o,r⟩
 ·exact x a u r
 ·obtain⟨_,q⟩:=x a _ r
  exact q
def Mut:Option HO->Prop
 | some (.lst _)=>True
 | some (.dK _)=>True
 | some (.dT _)=>True
 | some (.set _ _)=>True
 | some (.ins _ _ _)=>True
 | some (.ext _)=>True
 | _=>False
section
variable {P:NT}{w:Oe}{H:Hp}{h h':Heap}{x e:Addr}{o':HO}
def HOk.write (ok:HOk P w H h) (mu:Mut (H x)) (he:e=x\/H e=some (.own x)) (k:∀b u,b≠e->h.get? b=some u->h'.get? b=some u) (heo:∃u,h'.get? e=some u)
  (new:a_ P w (upd H x o') h' x o'):HOk P w (upd H x o') h':=fun b u q=>by
 have nown:∀c y,H c=some (.own y)->c≠x:=fun c y r z=>by subst z;rw[r] at mu;exact mu
 have ntup:∀c xs,H c=some (.tup xs)->c≠x:=fun c xs r z=>by subst z;rw[r] at mu;exact mu
 by_cases hb:b=x
 ·subst hb;rw[aL] at q;simp_all
 ·rw[aw hb] at q
  by_cases hbe:b=e
  ·have q':H b=some (.own x):=by
    simp_all
   rw[q] at q';cases q'
   obtain⟨v,hv⟩:=heo
   exact⟨v,by simp_all⟩
  ·refine(ok b u q).iy (fun c v hc r=>k c v ?_ r) (fun c r=>by rw[aw (nown c b r)];exact r) fun c xs r=>by rw[aw (ntup c xs r)];exact r
   grind
end
structure Un (fs ex:List Addr) (H H':Hp) (h h':Heap):Prop where
 keep:∀b o,h.get? b=some o->H b=none->b∉fs->b∉ex->h'.get? b=some o
 slot:∀b o,h.get? b=some o->H b=none->b∈fs->b∉ex->∃sl,h'.get? b=some { o with slots:=sl }
 free:∀b o,h.get? b=some o->H b=none->b∉ex->H' b=none
 there:∀b o,h.get? b=some o->b∉ex->∃o',h'.get? b=some o'
 i5:∀b xs,H b=some (.tup xs)->H' b=some (.tup xs)
 jA:∀b o u,H b=some (.frz o u)->H' b=some (.frz o u)
 lM:∀b ps,H b=some (.tbl ps)->∃more,H' b=some (.tbl (ps++more))
section
variable {fs fs' ex ex':List Addr}{H H1 H2:Hp}{h h1 h2 h':Heap}{a x e:Addr}{o:HO}
def Un.any (u:Un fs ex H H1 h h1) (q:h.get? b=some ob) (n:H b=none) (hx:b∉ex):∃sl,h1.get? b=some { ob with slots:=sl }:=by
 by_cases hb:b∈fs
 ·exact u.slot b ob q n hb hx
 ·exact⟨ob.slots,u.keep b ob q n hb hx⟩
def Un.kept (k:∀b u,h.get? b=some u->h'.get? b=some u):Un fs ex H H h h':=
 ⟨fun b ob q _ _ _=>k b ob q,fun b ob q _ _ _=>⟨ob.slots,k b ob q⟩,fun _ _ _ n _=>n,fun b ob q _=>⟨ob,k b ob q⟩,fun _ _ q=>q,fun _ _ _ q=>q,fun _ ps q=>⟨#[],by grind⟩⟩
def Un.refl:Un fs ex H H h h:=Un.kept fun _ _ q=>q
def Un.laid (k:∀b u,h.get? b=some u->h'.get? b=some u) (hp:h.objs.size<=a) (hn:H a=none):Un fs ex H (upd H a o) h h' where
 keep:=fun b u q _ _ _=>k b u q
 slot:=fun b u q _ _ _=>⟨u.slots,k b u q⟩
 free:=fun b u q n _=>by rw[aw (NU (N7 (NJ q) hp))];exact n
 there:=fun b u q _=>⟨u,k b u q⟩
 i5:=fun b xs q=>by rw[aw (aE q hn)];exact q
 jA:=fun b u xs q=>by rw[aw (aE q hn)];exact q
 lM:=fun b ps q=>⟨#[],by rw[aw (aE q hn),q];simp⟩
def Un.write (mu:Mut (H x)) (he:e=x\/H e=some (.own x)) (k:∀b u,b≠e->h.get? b=some u->h'.get? b=some u) (heo:∃u,h'.get? e=some u):Un fs ex H (upd H x o) h h':=by
 have hx:∀b,H b=none->b≠x:=fun b n z=>by subst z;rw[n] at mu;exact mu
 have hb:∀b,H b=none->b≠e:=fun b n z=>by
  simp_all
 have hm:∀b u,H b=some u->¬ Mut (some u)->b≠x:=fun b u q nm z=>by simp_all
 refine⟨fun b u q n _ _=>k b u (hb b n) q,fun b u q n _ _=>⟨u.slots,k b u (hb b n) q⟩,fun b u q n _=>by rw[aw (hx b n)];exact n,fun b u q _=>?_,
  fun b xs q=>by rw[aw (hm b _ q fun z=>z)];exact q,fun b u xs q=>by rw[aw (hm b _ q fun z=>z)];exact q,fun b ps q=>⟨#[],by rw[aw (hm b _ q fun z=>z),q];simp⟩⟩
 grind
end
noncomputable def trk (h:Heap) (H:Hp):List Addr:=(NQ h.objs.size).filter fun a=>(H a).isSome
noncomputable def ph (h:Heap) (H:Hp):Heap:=RZ h (trk h H)
def Ag (h) (H):(ph h H).objs.size=h.objs.size:=PySem.W.hideAll_size _ _
def AY (e:h.get? b=some o) (n:H b=none):(ph h H).get? b=some o:=
 Po _ e fun hm=>by
  have q:(H b).isSome=true:=(Qc.mp hm).2
  simp_all
def Fv (e:(ph h H).get? b=some o):h.get? b=some o/\H b=none:=by
 have e':h.get? b=some o:=Q6 (trk h H) e
 refine⟨e',?_⟩
 cases q:H b with
 | none=>rfl
 | some x=>
  have hm:b∈trk h H:=Qc.mpr ⟨O1.mpr (NJ e'),by simp[q]⟩
  have z:(ph h H).get? b=none:=PySem.W.hideAll_none (trk h H) hm
  simp_all
structure Mod (K:ND) (mg) (base):Prop where
 kin:K.In base
 glob:base.Ns mainGlobals mg
 blt:∃mb,base.Ns builtinsNs mb/\∀x:Str,x≠"__name__" -> mb x=bootBuiltins x
 nolimit:base.NoLimit
structure Cx where
 prog:NT
 w:Oe
 K:ND
 mg:Str->Option NI
 base:Heap
 A:Oa
 N:List Str
 ax:NM
 aD:Hp
 env:Env
 outer:List Env
 stack:List Env
 ex:List Addr
 fn:Str->Bool
 calm:Bool
 pn:List (Addr × Obj)
 xe:NI->NM->Prop
noncomputable def frs (l:List Env):List Addr:=l.filterMap (·.frame)
noncomputable abbrev Cx.fs (X:Cx):List Addr:=frs X.outer
def Vis (sc:R0) (x:Str):Prop:=sc.names.lookup x=some .local\/sc.names.lookup x=some .cell\/sc.names.lookup x=some .free
def Loc (sc:R0) (x:Str):Prop:=sc.names.lookup x=some .local\/sc.names.lookup x=some .cell
def Look (env:Env) (h:Heap) (m:Str->Option NI) (x:Str) (u:NI):Prop:=
 (env.kindOf x=some .local/\m x=some u)\/((env.kindOf x=some .cell\/env.kindOf x=some .free)/\∃c,env.cells.lookup x=some c/\h.IsCell c (some u))
structure Cx.Ok (X:Cx):Prop where
 mod:Mod X.K X.mg X.base
 kind:X.env.scope.kind=.function
 glob:X.env.globals=mainGlobals
 blt:X.env.builtins=builtinsNs
 above:X.ax.heap.objs.size<=X.env.locals
 inj:∀x y c,X.env.cells.lookup x=some c->X.env.cells.lookup y=some c->x=y
 has:∀x,(X.env.kindOf x=some .cell\/X.env.kindOf x=some .free)->∃c,X.env.cells.lookup x=some c
 cab:∀x c,X.fn x=true->X.env.cells.lookup x=some c->X.ax.heap.objs.size<=c
 hd:X.calm=true->X.A.handled=none
 frames:X.A.frames=some X.stack
 stk:X.stack=X.outer\/(X.stack=X.env::X.outer/\X.env.frame=some X.env.locals)
 exf:∀b∈X.ex,b≠X.env.locals/\∀x c,X.env.cells.lookup x=some c->c≠b
 bs:∀b o,X.base.get? b=some o->X.ax.heap.get? b=some o/\X.aD b=none
 bsz:X.base.objs.size<=X.ax.heap.objs.size
 pf:∀b o,X.base.get? b=some o->b∉X.ex
 tD:∀b∈X.ex,b∉X.fs
 g_:X.ax.heap.FunFrames X.base X.outer
 frf:∀b∈X.fs,X.aD b=none
structure Inv (X:Cx) (pins) (σ:List (Option V)) (H) (s:NM):Prop where
 ok:X.Ok
 os:s.os=X.ax.os
 bare:SE s.gens
 base:Un X.fs X.ex X.aD H X.ax.heap s.heap
 loc:∃m,s.heap.Ns X.env.locals m/\∀(i:Nat) x v , X.N[i]?=some x->σ[i]?=some (some v)->Vis X.env.scope x->∃u,RelV v u/\Look X.env s.heap m x u
 cell:∀x c,X.env.cells.lookup x=some c->∃v,s.heap.IsCell c v
 free:H X.env.locals=none
 cD:∀x c,X.env.cells.lookup x=some c->H c=none
 pin:∀p∈X.pn++pins,s.heap.get? p.1=some p.2/\H p.1=none/\p.1≠X.env.locals/\p.1∉X.fs/\∀v,p.2.data≠.cell v
 hok:HOk X.prog X.w H s.heap
 len:σ.length=X.N.length
section
variable {X:Cx}{pins:List (Addr × Obj)}{σ:List (Option V)}{H H':Hp}{s:NM}{h':Heap}
def Cx.Ok.Mc (ok:X.Ok) (e:X.base.get? b=some o):b∉X.fs:=fun hb=>by
 have:=(ok.g_.mem hb).1
 simp_all
theorem Inv.bs (I:Inv X pins σ H s):∀b o,X.base.get? b=some o->s.heap.get? b=some o/\H b=none:=fun b o e=>
 ⟨I.base.keep b o (I.ok.bs b o e).1 (I.ok.bs b o e).2 (I.ok.Mc e) (I.ok.pf b o e),I.base.free b o (I.ok.bs b o e).1 (I.ok.bs b o e).2 (I.ok.pf b o e)⟩
def Inv.bk (I:Inv X pins σ H s):∀b o,X.base.get? b=some o->s.heap.get? b=some o:=fun b o e=>(I.bs b o e).1
theorem Inv.mod (I:Inv X pins σ H s):Mod X.K X.mg X.base:=I.ok.mod
def Inv.kIn (I:Inv X pins σ H s):X.K.In s.heap:=I.ok.mod.kin.keeps I.bk
theorem Inv.nolimit (I:Inv X pins σ H s):s.heap.NoLimit:=I.ok.mod.nolimit.keeps I.bk
theorem Inv.lt (I:Inv X pins σ H s):X.env.locals<s.heap.objs.size:=let ⟨_,hn,_⟩:=I.loc;hn.lt
def Inv.sz (I:Inv X pins σ H s):X.ax.heap.objs.size<=s.heap.objs.size:=N4 I.ok.above (RH I.lt)
def Inv.Iv (I:Inv X pins σ H s){a:Addr} (h:s.heap.objs.size<=a):a∉X.fs:=fun hb=>by
 obtain⟨_,o,ho,_⟩:=I.ok.g_.mem hb
 exact absurd (N7 (NJ ho) (N4 I.sz h)) (O7 _)
def Inv.cne (I:Inv X pins σ H s):∀x c,X.env.cells.lookup x=some c->c≠X.env.locals:=fun x c e z=>by
 obtain⟨v,o,ho,hd⟩:=I.cell x c e
 obtain⟨m,⟨o',es,ep,ho',hd',_⟩,_⟩:=I.loc
 simp_all
theorem Inv.g_ (I:Inv X pins σ H s):s.heap.FunFrames X.base X.outer:=by
 have all:∀(l:List Env),(∀b∈frs l,b∈X.fs)->X.ax.heap.FunFrames X.base l->s.heap.FunFrames X.base l:=by
  intro l
  induction l with
  | nil=>intro _ _;trivial
  | cons env r ih=>
   intro hs hl
   obtain⟨hk,⟨L,o,hf,hn,ho,hd⟩,hr⟩:=hl
   have hL:L∈X.fs:=hs L (by unfold frs;simp_all)
   obtain⟨sl,e⟩:=I.base.slot L o ho (I.ok.frf L hL) hL fun z=>I.ok.tD L z hL
   exact⟨hk,⟨L,_,hf,hn,e,hd⟩,ih (fun b hb=>hs b (by unfold frs;rw[QV,hf];exact NH _ hb)) hr⟩
 exact all X.outer (fun _ hb=>hb) I.ok.g_
theorem Inv.stack (I:Inv X pins σ H s):s.heap.FunFrames X.base X.stack:=by
 rcases I.ok.stk with e | ⟨e,hf⟩
 ·rw[e];exact I.g_
 ·rw[e]
  obtain⟨m,hn,_⟩:=I.loc
  refine .cons (by rw[I.ok.kind];decide) hf hn ?_ I.g_
  exact QL (N4 I.ok.bsz I.ok.above)
def Inv.d_ (I:Inv X pins σ H s):∀b∈frs X.stack,b∈X.env.locals::X.fs:=fun b hb=>by
 rcases I.ok.stk with e | ⟨e,hf⟩
 ·simp_all
 ·rw[e] at hb
  unfold frs at hb
  rw[QV,hf] at hb
  exact hb
def Inv.jz (I:Inv X pins σ H s):∀b∈frs X.stack,H b=none:=fun b hb=>by
 rcases NV.mp (I.d_ b hb) with e | hb
 ·rw[e];exact I.free
 ·obtain⟨_,o,ho,_⟩:=I.ok.g_.mem hb
  exact I.base.free b o ho (I.ok.frf b hb) fun z=>I.ok.tD b z hb
def Inv.step {g':Array GenState}{t':Nat}{d':Drawn}{ch:List Addr} (I:Inv X pins σ H s)
  (hch:∀b∈ch,(b∈X.ex\/X.ax.heap.objs.size<=b)/\b≠X.env.locals/\(∀x c,X.env.cells.lookup x=some c->c≠b)/\∀p∈X.pn++pins,p.1≠b)
  (keep:∀b o,b≠X.env.locals->b∉X.fs->b∉ch->s.heap.get? b=some o->H b=none->h'.get? b=some o)
  (slot:∀b o,b≠X.env.locals->b∈X.fs->b∉ch->s.heap.get? b=some o->H b=none->∃sl,h'.get? b=some { o with slots:=sl }) (free:∀b o,b∉ch->s.heap.get? b=some o->H b=none->H' b=none)
  (there:∀b o,b∉ch->s.heap.get? b=some o->∃o',h'.get? b=some o')
  (i5:∀b xs,H b=some (.tup xs)->H' b=some (.tup xs)) (jA:∀b o u,H b=some (.frz o u)->H' b=some (.frz o u)) (lM:∀b ps,H b=some (.tbl ps)->∃more,H' b=some (.tbl (ps++more)))
  (ns:∀m,s.heap.Ns X.env.locals m->h'.Ns X.env.locals m) (hok:HOk X.prog X.w H' h') (hg:SE g') :
  Inv X pins σ H' { s with heap:=h',gens:=g',drawn:=d',toks:=t' }:=by
 have neL:∀b o,X.ax.heap.get? b=some o->b≠X.env.locals:=fun b o e=>NU (N7 (NJ e) I.ok.above)
 have neC:∀b o,X.ax.heap.get? b=some o->b∉X.ex->b∉ch:=fun b o e hx hb=>by
  rcases(hch b hb).1 with z | z
  ·grind
  ·exact absurd (N7 (NJ e) z) (O7 _)
 have cellK:∀x c,X.env.cells.lookup x=some c->∀v,s.heap.IsCell c v->h'.IsCell c v:=fun x c e v ⟨o,ho,hd⟩=>by
  have nch:c∉ch:=fun z=>(hch c z).2.2.1 x c e rfl
  by_cases hc:c∈X.fs
  ·obtain⟨sl,q⟩:=slot c o (I.cne x c e) hc nch ho (I.cD x c e)
   exact⟨_,q,hd⟩
  ·exact⟨o,keep c o (I.cne x c e) hc nch ho (I.cD x c e),hd⟩
 refine⟨I.ok,I.os,hg,⟨fun b o e n hb hx=>?_,fun b o e n hb hx=>?_,fun b o e n hx=>?_,fun b o e hx=>?_,fun b xs e=>i5 b xs (I.base.i5 b xs e),fun b o xs e=>jA b o xs (I.base.jA b o xs e),fun b ps e=>?_⟩,?_,fun x c e=>?_,?_,fun x c e=>?_,fun p hp=>?_,hok,I.len⟩
 ·exact keep b o (neL b o e) hb (neC b o e hx) (I.base.keep b o e n hb hx) (I.base.free b o e n hx)
 ·obtain⟨sl,e1⟩:=I.base.slot b o e n hb hx
  obtain⟨sl',e2⟩:=slot b _ (neL b o e) hb (neC b o e hx) e1 (I.base.free b o e n hx)
  simp_all
 ·obtain⟨o',e1⟩:=I.base.there b o e hx
  exact free b o' (neC b o e hx) e1 (I.base.free b o e n hx)
 ·obtain⟨o',e1⟩:=I.base.there b o e hx
  exact there b o' (neC b o e hx) e1
 ·obtain⟨m1,e1⟩:=I.base.lM b ps e
  grind
 ·obtain⟨m,hn,hl⟩:=I.loc
  refine⟨m,ns m hn,fun i x v e1 e2 e3=>?_⟩
  obtain⟨u,r,l⟩:=hl i x v e1 e2 e3
  refine⟨u,r,?_⟩
  rcases l with l | ⟨k,c,e,z⟩
  ·exact .inl l
  ·exact .inr ⟨k,c,e,cellK x c e _ z⟩
 ·obtain⟨v,z⟩:=I.cell x c e
  grind
 ·obtain⟨m,⟨o,_,_,ho,_⟩,_⟩:=I.loc
  exact free _ o (fun z=>(hch _ z).2.1 rfl) ho I.free
 ·obtain⟨v,o,ho,hd⟩:=I.cell x c e
  exact free c o (fun z=>(hch c z).2.2.1 x c e rfl) ho (I.cD x c e)
 ·obtain⟨e,n,ne,nf,d⟩:=I.pin p hp
  grind
def Inv.un {t':Nat} (I:Inv X pins σ H s) (u:Un X.fs [] H H' s.heap h') (hok:HOk X.prog X.w H' h'):Inv X pins σ H' { s with heap:=h',toks:=t' }:=by
 obtain⟨m,⟨o,es,ep,ho,r⟩,_⟩:=id I.loc
 obtain⟨sl,hL⟩:=u.any ho I.free (by simp)
 exact I.step (g':=s.gens) (d':=s.drawn) (ch:=[]) (fun _ z=>nomatch z) (fun b o _ hb _ e n=>u.keep b o e n hb (by simp)) (fun b o _ hb _ e n=>u.slot b o e n hb (by simp)) (fun b o _ e n=>u.free b o e n (by simp)) (fun b o _ e=>u.there b o e (by simp)) u.i5 u.jA u.lM (fun m' hm=>by
  obtain⟨o',es',ep',ho',r'⟩:=hm
  rw[ho] at ho';cases ho'
  exact⟨_,es',ep',hL,r'⟩) hok I.bare
def Inv.call (I:Inv X pins σ H s) (u:Un (frs X.stack) ch H H' s.heap h') (hok:HOk X.prog X.w H' h') (hg:SE g')
  (hch:∀b∈ch,(b∈X.ex\/X.ax.heap.objs.size<=b)/\b≠X.env.locals/\(∀x c,X.env.cells.lookup x=some c->c≠b)/\∀p∈X.pn++pins,p.1≠b) :
  Inv X pins σ H' { s with heap:=h',gens:=g',drawn:=d',toks:=t' }:=by
 obtain⟨m,⟨o,es,ep,ho,r⟩,_⟩:=id I.loc
 obtain⟨sl,hL⟩:=u.any ho I.free fun z=>(hch _ z).2.1 rfl
 exact I.step (ch:=ch) hch (fun b o hL hb hc e n=>u.keep b o e n (fun z=>(NV.mp (I.d_ b z)).elim hL hb) hc) (fun b o _ _ hc e n=>u.any e n hc) (fun b o hc e n=>u.free b o e n hc) (fun b o hc e=>u.there b o e hc) u.i5 u.jA u.lM (fun m' hm=>by
  obtain⟨o',es',ep',ho',r'⟩:=hm
  rw[ho] at ho';cases ho'
  exact⟨_,es',ep',hL,r'⟩) hok hg
def Inv.turned (I:Inv X pins σ H s) (k:∀b o,b≠it->s.heap.get? b=some o->h'.get? b=some o) (hn:H it=none) (hL:it≠X.env.locals)
  (h1:it∈X.ex\/X.ax.heap.objs.size<=it) (h2:∀x c,X.env.cells.lookup x=some c->c≠it) (h3:∀p∈X.pn++pins,p.1≠it):Inv X pins σ H { s with heap:=h',toks:=t' }:=by
 have nit:∀b u,H b=some u->b≠it:=fun b u e z=>by simp_all
 refine I.step (g':=s.gens) (d':=s.drawn) (ch:=[it]) (fun b hb=>?_) (fun b o _ _ hc e _=>k b o (fun z=>hc (by simp[z])) e) (fun b o _ _ hc e _=>⟨o.slots,k b o (fun z=>hc (by simp[z])) e⟩) (fun _ _ _ _ n=>n)
  (fun b o hc e=>⟨o,k b o (fun z=>hc (by simp[z])) e⟩) (fun _ _ e=>e) (fun _ _ _ e=>e) (fun b ps e=>⟨#[],by grind⟩) (fun m hm=>?_) (fun b u e=>?_) I.bare
 ·grind
 ·obtain⟨o,es,ep,ho,r⟩:=hm
  exact⟨o,es,ep,k _ o (Q7 hL) ho,r⟩
 ·refine(I.hok b u e).iy (fun c v hc q=>k c v ?_ q) (fun _ q=>q) fun _ _ q=>q
  grind
def Inv.tok (I:Inv X pins σ H s) (t):Inv X pins σ H { s with toks:=t }:=I.un (h':=s.heap) (t':=t) Un.refl I.hok
theorem Inv.kept (I:Inv X pins σ H s) (k:∀b u,s.heap.get? b=some u->h'.get? b=some u):Inv X pins σ H { s with heap:=h',toks:=t' }:=I.un (Un.kept k) (I.hok.kept k)
theorem Inv.laid {a:Addr} (I:Inv X pins σ H s) (k:∀b u,s.heap.get? b=some u->h'.get? b=some u) (hp:s.heap.objs.size<=a) (new:a_ X.prog X.w (upd H a o) h' a o) :
  Inv X pins σ (upd H a o) { s with heap:=h',toks:=t' }:=I.un (Un.laid k hp (I.hok.fresh hp)) (I.hok.laid k hp new)
theorem Inv.write (I:Inv X pins σ H s) (mu:Mut (H x)) (he:e=x\/H e=some (.own x)) (k:∀b u,b≠e->s.heap.get? b=some u->h'.get? b=some u) (heo:∃u,h'.get? e=some u)
  (new:a_ X.prog X.w (upd H x o) h' x o):Inv X pins σ (upd H x o) { s with heap:=h',toks:=t' }:=I.un (Un.write mu he k heo) (I.hok.write mu he k heo new)
def Inv.jD (I:Inv X pins σ H s) (h:∀p∈pins',s.heap.get? p.1=some p.2/\H p.1=none/\p.1≠X.env.locals/\p.1∉X.fs/\∀v,p.2.data≠.cell v):Inv X pins' σ H s:=
 ⟨I.ok,I.os,I.bare,I.base,I.loc,I.cell,I.free,I.cD,fun p hp=>(Ou.mp hp).elim (fun z=>I.pin p (Pz _ z)) (h p),I.hok,I.len⟩
def uZ {N:List Str} (hN:N.Nodup){i j:Nat} (a:N[i]?=some x) (b:N[j]?=some x):i=j:=by
 obtain⟨h1,e1⟩:=OO.mp a
 obtain⟨h2,e2⟩:=OO.mp b
 exact(List.getElem_inj hN).mp (e1.trans e2.symm)
def yQ (I:Inv X pins σ H s) (hN:X.N.Nodup) (hi:X.N[i]?=some x) (hx:Loc X.env.scope x) (r:RelV v u)
  (h:∀s',Inv X pins (σ.set i (some v)) H s'->(∃a,PC a s.heap s'.heap/\(a=X.env.locals\/X.env.cells.lookup x=some a))->Q () s') (hf:X.fn x=true\/X.env.scope.names.lookup x=some .local:=by first | exact .inl rfl | exact .inr rfl | assumption):wpAny M A (storeName X.env x u) Q E s:=by
 obtain⟨m,hn,hl⟩:=id I.loc
 have hcls:(X.env.scope.kind == .class || (X.env.scope.kind == .module&&X.env.locals != X.env.globals))=false:=by rw[I.ok.kind];rfl
 have hiσ:i<σ.length:=by rw[I.len];grind
 have cne:=I.cne
 have tracked:∀{a:Addr} {h':Heap},(∃o,s.heap.get? a=some o/\H a=none)->PC a s.heap h'->HOk X.prog X.w H h':=fun{a h'} ha hs b ob e=>by
  obtain⟨_,_,hfree⟩:=ha
  refine(I.hok b ob e).iy (fun c w' hc q=>(hs.2 c ?_).trans q) (fun _ q=>q) fun _ _ q=>q
  grind
 rcases hx with hk | hk
 ·refine wpAny_storeName_local hk hn (fun h' hn' hs=>?_) hcls
  obtain⟨oL,_,_,hoL,_⟩:=id hn
  refine h _ ⟨I.ok,I.os,I.bare,⟨fun b o e n hb hx=>?_,fun b o e n hb hx=>?_,I.base.free,fun b o e hx=>?_,I.base.i5,I.base.jA,I.base.lM⟩,⟨_,hn',fun j y v' e1 e2 e3=>?_⟩,fun y c e=>?_,I.free,I.cD,fun p hp=>?_,tracked ⟨oL,hoL,I.free⟩ hs,by simpa using I.len⟩ ⟨_,hs,.inl rfl⟩
  ·exact(hs.2 b (NU (N7 (NJ e) I.ok.above))).trans (I.base.keep b o e n hb hx)
  ·obtain⟨sl,e1⟩:=I.base.slot b o e n hb hx
   exact⟨sl,(hs.2 b (NU (N7 (NJ e) I.ok.above))).trans e1⟩
  ·obtain⟨o',e1⟩:=I.base.there b o e hx
   exact⟨o',(hs.2 b (NU (N7 (NJ e) I.ok.above))).trans e1⟩
  ·by_cases hj:j=i
   ·subst hj
    rw[hi] at e1;cases e1
    rw[Rp hiσ] at e2
    cases e2
    exact⟨u,r,.inl ⟨hk,by simp⟩⟩
   ·rw[List.getElem?_set_ne (Q7 hj)] at e2
    obtain⟨u',r',q⟩:=hl j y v' e1 e2 e3
    refine⟨u',r',?_⟩
    rcases q with⟨k,e⟩ | ⟨k,c,e,z⟩
    ·refine .inl ⟨k,?_⟩
     have:y≠x:=fun e=>hj (uZ hN e1 (e ▸ hi))
     simp_all
    ·exact .inr ⟨k,c,e,z.sameBut hs (cne y c e)⟩
  ·obtain⟨w',z⟩:=I.cell y c e
   exact⟨w',z.sameBut hs (cne y c e)⟩
  ·obtain⟨e,n,ne,nf,d⟩:=I.pin p hp
   exact⟨(hs.2 p.1 ne).trans e,n,ne,nf,d⟩
 ·have hfn:X.fn x=true:=by
   simp_all
  obtain⟨c,hc⟩:=I.ok.has x (.inl hk)
  obtain⟨w',z⟩:=I.cell x c hc
  refine wpAny_storeName_cell I.ok.kind hk hc z (fun h' hc' hs=>?_)
  obtain⟨oc,hoc,hocd⟩:=id z
  refine h { s with heap:=h' } ⟨I.ok,I.os,I.bare,⟨fun b o e n hb hx=>?_,fun b o e n hb hx=>?_,I.base.free,fun b o e hx=>?_,I.base.i5,I.base.jA,I.base.lM⟩,⟨m,hn.sameBut hs (Q7 (cne x c hc)),fun j y v' e1 e2 e3=>?_⟩,fun y c' e=>?_,I.free,I.cD,fun p hp=>?_,tracked ⟨oc,hoc,I.cD x c hc⟩ hs,by simpa using I.len⟩ ⟨c,hs,.inr hc⟩
  ·exact(hs.2 b (NU (N7 (NJ e) (I.ok.cab x c hfn hc)))).trans (I.base.keep b o e n hb hx)
  ·obtain⟨sl,e1⟩:=I.base.slot b o e n hb hx
   exact⟨sl,(hs.2 b (NU (N7 (NJ e) (I.ok.cab x c hfn hc)))).trans e1⟩
  ·obtain⟨o',e1⟩:=I.base.there b o e hx
   exact⟨o',(hs.2 b (NU (N7 (NJ e) (I.ok.cab x c hfn hc)))).trans e1⟩
  ·by_cases hj:j=i
   ·subst hj
    rw[hi] at e1;cases e1
    rw[Rp hiσ] at e2
    cases e2
    exact⟨u,r,.inr ⟨.inl hk,c,hc,hc'⟩⟩
   ·rw[List.getElem?_set_ne (Q7 hj)] at e2
    obtain⟨u',r',q⟩:=hl j y v' e1 e2 e3
    refine⟨u',r',?_⟩
    rcases q with q | ⟨k,c',e,z'⟩
    ·exact .inl q
    ·refine .inr ⟨k,c',e,z'.sameBut hs ?_⟩
     rintro rfl
     exact hj (uZ hN e1 (I.ok.inj _ _ _ e hc ▸ hi))
  ·by_cases hcc:c'=c
   ·grind
   ·obtain⟨w2,z2⟩:=I.cell y c' e
    exact⟨w2,z2.sameBut hs hcc⟩
  ·obtain⟨e,n,ne,nf,d⟩:=I.pin p hp
   refine⟨(hs.2 p.1 ?_).trans e,n,ne,nf,d⟩
   grind
def gU (I:Inv X pins σ H s) (hN:X.N.Nodup) (hi:X.N[i]?=some x) (hx:Loc X.env.scope x) (r:RelV v u)
  (h:∀s',Inv X pins (σ.set i (some v)) H s'->Q () s') (hf:X.fn x=true\/X.env.scope.names.lookup x=some .local:=by first | exact .inl rfl | exact .inr rfl | assumption):wpAny M A (storeName X.env x u) Q E s:=
 yQ I hN hi hx r (fun s' I' _=>h s' I') hf
def Inv.qo (I:Inv X pins σ H s) (ho:s'.os=s.os) (u:Un (frs X.stack) ch H H' s.heap s'.heap) (hok:HOk X.prog X.w H' s'.heap) (hg:SE s'.gens)
  (hch:∀b∈ch,(b∈X.ex\/X.ax.heap.objs.size<=b)/\b≠X.env.locals/\(∀x c,X.env.cells.lookup x=some c->c≠b)/\∀p∈X.pn++pins,p.1≠b):Inv X pins σ H' s':=by
 obtain⟨h',g',d',t',o'⟩:=s'
 have e:o'=s.os:=ho
 subst e
 exact I.call (g':=g') (t':=t') (d':=d') u hok hg hch
end
noncomputable abbrev XK:=NI->Option Addr->Hp->Prop
noncomputable abbrev St:=List (Option V)
noncomputable abbrev VK:=V->Hp->Prop
noncomputable abbrev TE:=St->Hp->VK->Prop
noncomputable abbrev TT:=St->Hp->(Bool->Hp->Prop)->Prop
noncomputable abbrev TA:=St->Hp->(List V->Hp->Prop)->Prop
structure Ends where
 nx:St->Hp->Prop
 rt:VK
 bk:St->Hp->Prop:=fun _ _=>False
 ct:St->Hp->Prop:=fun _ _=>False
noncomputable abbrev TS:=Ends->St->Hp->Prop
def EP (X:Cx) (pins:List (Addr × Obj)) (σ:St) (Q:VK) (u:NI) (s':NM):Prop:=∃v H',Inv X pins σ H' s'/\RelV v u/\Q v H'
def TP (X:Cx) (pins:List (Addr × Obj)) (σ:St) (Q:Bool->Hp->Prop) (b:Bool) (s':NM):Prop:=∃H',Inv X pins σ H' s'/\Q b H'
def AP (X:Cx) (pins:List (Addr × Obj)) (σ:St) (Q:List V->Hp->Prop) (us:List NI) (s':NM):Prop:=∃vs H',Inv X pins σ H' s'/\Vals vs us/\Q vs H'
def SP (X:Cx) (pins:List (Addr × Obj)) (D:Ends) (f:Flow) (s':NM):Prop:=
 match f with
 | .next=>∃σ' H',Inv X pins σ' H' s'/\D.nx σ' H'
 | .brk=>∃σ' H',Inv X pins σ' H' s'/\D.bk σ' H'
 | .cont=>∃σ' H',Inv X pins σ' H' s'/\D.ct σ' H'
 | .ret u=>∃v σ' H',Inv X pins σ' H' s'/\RelV v u/\D.rt v H'
def PE (X:Cx) (e:Expr) (t:TE):Prop:=
 ∀pins s (σ:St) H Q , Inv X pins σ H s->t σ H Q->wpAny (model X.prog X.w) X.A (eval e X.env) (EP X pins σ Q) X.xe s
def PT (X:Cx) (e:Expr) (t:TT):Prop:=
 ∀pins s (σ:St) H Q , Inv X pins σ H s->t σ H Q->wpAny (model X.prog X.w) X.A (isTrue e X.env (eval e X.env)) (TP X pins σ Q) X.xe s
def PW (X:Cx) (e:Expr) (t:TT):Prop:=
 ∀whole pins s (σ:St) H Q , Inv X pins σ H s->t σ H Q->wpAny (model X.prog X.w) X.A (isTrue e X.env whole) (TP X pins σ Q) X.xe s
def PW.pt (h:PW X e t):PT X e t:=h _
def PA (X:Cx) (es:List Expr) (t:TA):Prop:=
 ∀pos pins s (σ:St) H Q , Inv X pins σ H s->t σ H Q->wpAny (model X.prog X.w) X.A (spliced (backTo pos (starEach es X.env))) (AP X pins σ Q) X.xe s
def PS (X:Cx) (st:Stmt) (t:TS):Prop:=
 ∀pins s (σ:St) H D , Inv X pins σ H s->t D σ H->wpAny (model X.prog X.w) X.A (exec st X.env) (SP X pins D) X.xe s
def PSs (X:Cx) (st:List Stmt) (t:TS):Prop:=
 ∀pins s (σ:St) H D , Inv X pins σ H s->t D σ H->wpAny (model X.prog X.w) X.A (execs st X.env) (SP X pins D) X.xe s
def thn {M:Model}{A:Oa}{E:NI->NM->Prop}{s:NM} (h:wpAny M A t Q E s) (hQ:∀a s,Q a s->Q' a s):wpAny M A t Q' E s:=N6 h hQ fun _ _ x=>x
section
variable {X:Cx}
noncomputable def LH (i:Nat):TE:=fun σ H Q=>∃v,σ[i]?=some (some v)/\Q v H
noncomputable def tC (v:V):TE:=fun _ H Q=>Q v H
def Bs {pos:Pos} (hN:X.N[i]?=some x) (hv:Vis X.env.scope x) (hd:(x == ("__debug__" : Str))=false:=by decide) (hcd:(x == ("__classdict__" : Str))=false:=by decide):PE X (.Name x pos) (LH i):=by
 intro pins s σ H Q I h
 obtain⟨v,e,h⟩:=h
 obtain⟨m,hn,hl⟩:=I.loc
 obtain⟨u,r,l⟩:=hl i x v hN e hv
 have fin:EP X pins σ Q u s:=⟨v,H,I,r,h⟩
 rcases l with⟨hk,hm⟩ | ⟨hk,c,hc,hcell⟩
 ·exact Sk (RQ I.ok.kind hk hn hm fin) hd
 ·rcases hk with hk | hk
  ·exact Sk (wpAny_loadName_cell I.ok.kind hk hc hcell fin) hd
  ·exact Sk (wpAny_loadName_free I.ok.kind hk hc hcell fin hcd) hd
def Hu:PE X (.Constant (.int i) j pos) (tC (.int i)):=fun _ _ _ H _ I h=>wpAny_Constant_int ⟨.int i,H,I.tok _,⟨_,rfl⟩,h⟩
def K_:PE X (.Constant (.bool b) j pos) (tC (.bl b)):=fun _ _ _ H _ I h=>Constant_bool ⟨.bl b,H,I,rfl,h⟩
def Ii:PE X (.Constant (.str x) j pos) (tC (.str x)):=fun _ _ _ H _ I h=>Calls.Constant_str ⟨.str x,H,I.tok _,⟨_,rfl⟩,h⟩
def Gl (X:Cx) (x:Str):Prop:=X.env.kindOf x=some .globalImplicit
def fT {σ:St} (I:Inv X pins σ H s) (hg:Gl X x) (hm:X.mg x=some u) (h:Q u s)
  (hd:(x == ("__debug__" : Str))=false:=by decide):wpAny (model X.prog X.w) X.A (eval (.Name x pos) X.env) Q E s:=
 QK I.ok.kind hg (Calls.loadGlobal_global (by rw[I.ok.glob];exact I.mod.glob.keeps I.bk) hm h) hd
def jY {E:NI->NM->Prop}{σ:St}{pos:Pos} (I:Inv X pins σ H s) (hg:Gl X x) (hm:X.mg x=none) (hv:bootBuiltins x=some u) (h:Q u s)
  (hn:x≠"__name__" := by decide) (hd:(x == ("__debug__" : Str))=false:=by decide):wpAny (model X.prog X.w) X.A (eval (.Name x pos) X.env) Q E s:=by
 obtain⟨mb,h1,h2⟩:=I.mod.blt
 exact QK I.ok.kind hg (Calls.loadGlobal_builtin (by rw[I.ok.glob];exact I.mod.glob.keeps I.bk) hm (by rw[I.ok.blt];exact h1.keeps I.bk) ((h2 x hn).trans hv) h) hd
def EK (hg:Gl X x) (hm:X.mg x=some u) (r:RelV v u) (hd:(x == ("__debug__" : Str))=false:=by decide):PE X (.Name x pos) (tC v):=
 fun _ _ _ H _ I h=>fT I hg hm ⟨v,H,I,r,h⟩ hd
def xu {pos:Pos} (hg:Gl X x) (hm:X.mg x=none) (hv:bootBuiltins x=some u) (r:RelV v u) (hn:x≠"__name__" := by decide) (hd:(x == ("__debug__" : Str))=false:=by decide):PE X (.Name x pos) (tC v):=
 fun _ _ _ H _ I h=>jY I hg hm hv ⟨v,H,I,r,h⟩ hn hd
variable {a b:Expr}{ta tb:TE}{pos:Pos}
variable {tA tB':TT}{rest:List Expr}
noncomputable def Ma (t u:TT):TT:=fun σ H Q=>t σ H fun c H1=>if c=true then u σ H1 Q else Q false H1
noncomputable def tOr (t u:TT):TT:=fun σ H Q=>t σ H fun c H1=>if c=true then Q true H1 else u σ H1 Q
noncomputable def LN (t:TT):TT:=fun σ H Q=>t σ H fun c H1=>Q (!c) H1
def pw_and1 (ha:PT X a tA):PW X (.BoolOp .And [a] pos) tA:=by
 intro wh pins s σ H Q I h
 refine isTrue_and (thn (ha pins s σ H Q I h) fun c s1 e=>?_)
 cases c with
 | true=>exact isTrue_and_nil e
 | false=>exact e
def pw_or1 (ha:PT X a tA):PW X (.BoolOp .Or [a] pos) tA:=by
 intro wh pins s σ H Q I h
 refine isTrue_or (thn (ha pins s σ H Q I h) fun c s1 e=>?_)
 cases c with
 | false=>exact isTrue_or_nil e
 | true=>exact e
def pw_and (ha:PT X a tA) (hb:PW X (.BoolOp .And (b::rest) pos) tB'):PW X (.BoolOp .And (a::b::rest) pos) (Ma tA tB'):=by
 intro wh pins s σ H Q I h
 refine isTrue_and (thn (ha pins s σ H _ I h) fun c s1 ⟨H1,I1,q1⟩=>?_)
 cases c with
 | true=>exact hb wh pins s1 σ H1 Q I1 q1
 | false=>assumption
def pw_or (ha:PT X a tA) (hb:PW X (.BoolOp .Or (b::rest) pos) tB'):PW X (.BoolOp .Or (a::b::rest) pos) (tOr tA tB'):=by
 intro wh pins s σ H Q I h
 refine isTrue_or (thn (ha pins s σ H _ I h) fun c s1 ⟨H1,I1,q1⟩=>?_)
 cases c with
 | true=>assumption
 | false=>exact hb wh pins s1 σ H1 Q I1 q1
def Ia (ha:PT X a tA):PT X (.UnaryOp .Not a pos) (LN tA):=by
 intro pins s σ H Q I h
 exact isTrue_not (ha pins s σ H (fun c H1=>Q (!c) H1) I h)
noncomputable def Lk (ta tb:TE):TE:=fun σ H Q=>ta σ H fun x H1=>∃c,x=.bl c/\if c=true then tb σ H1 Q else Q (.bl false) H1
noncomputable def Km (ta:TE):TE:=fun σ H Q=>ta σ H fun x H1=>∃c,x=.bl c/\Q (.bl (!c)) H1
def IM (h:PE X a t):PE X (.BoolOp op [a] pos) t:=fun pins s σ H Q I hw=>BoolOp_one (h pins s σ H Q I hw)
def G6 (ha:PE X a ta) (hb:PE X (.BoolOp .And (b::rest) pos) tb):PE X (.BoolOp .And (a::b::rest) pos) (Lk ta tb):=by
 intro pins s σ H Q I h
 refine BoolOp_and (thn (ha pins s σ H _ I h) fun v s1 ⟨x,H1,I1,r1,q1⟩=>?_)
 obtain⟨c,rfl,q1⟩:=q1
 cases r1
 refine PH ?_
 cases c with
 | true=>exact hb pins s1 σ H1 Q I1 q1
 | false=>exact⟨.bl false,H1,I1,rfl,q1⟩
def Gw (ha:PE X a ta):PE X (.UnaryOp .Not a pos) (Km ta):=by
 intro pins s σ H Q I h
 refine UnaryOp_ (thn (ha pins s σ H _ I h) fun v s1 ⟨x,H1,I1,r1,q1⟩=>?_)
 obtain⟨c,rfl,q1⟩:=q1
 cases r1
 exact not_of (PH ⟨.bl (!c),H1,I1,rfl,q1⟩)
noncomputable def tIf (t:TT) (ta tb:TE):TE:=fun σ H Q=>t σ H fun c H1=>if c=true then ta σ H1 Q else tb σ H1 Q
def BC {c:Expr} (hc:PT X c tA) (ha:PE X a ta) (hb:PE X b tb):PE X (.IfExp c a b pos) (tIf tA ta tb):=by
 intro pins s σ H Q I h
 refine wpAny_IfExp (thn (hc pins s σ H _ I h) fun d s1 ⟨H1,I1,q1⟩=>?_)
 cases d with
 | true=>exact ha pins s1 σ H1 Q I1 q1
 | false=>exact hb pins s1 σ H1 Q I1 q1
end
def SqL (K:ND) (H:Hp) (a:Addr) (xs:List V):Prop:=
 Rd H a (.lst xs) ∨
  ∃o its n,K.lookup a=some o/\o.cls=.type "list" /\ o.dict=none/\o.data=.seq its n/\its.size<=sizeLine/\Vals xs its.toList
def SqT (K:ND) (H:Hp) (a:Addr) (xs:List V):Prop:=
 Rd H a (.tup xs) ∨
  ∃o its n,K.lookup a=some o/\o.cls=.type "tuple" /\ o.data=.seq its n/\its.size<=sizeLine/\Vals xs its.toList
noncomputable def MQ:NI->Option V
 | .none=>some .non
 | .bool b=>some (.bl b)
 | .int i _=>some (.int i)
 | .str x _=>some (.str x)
 | .bytes b _=>some (.byt b)
 | .float b _=>some (.flt b)
 | .ref a=>some (.ref a)
 | .type n=>some (.ty n)
 | _=>none
def RelV.abs (r:RelV x u):MQ u=some x:=by
 cases x with
 | non=>cases r;rfl
 | bl _=>cases r;rfl
 | int _=>obtain⟨t,rfl⟩:=r;rfl
 | str _=>obtain⟨t,rfl⟩:=r;rfl
 | byt _=>obtain⟨t,rfl⟩:=r;rfl
 | flt _=>obtain⟨t,rfl⟩:=r;rfl
 | ref _=>cases r;rfl
 | ty _=>cases r;rfl
def RelV.inj (r:RelV x u) (q:RelV y u):x=y:=Qb (r.abs.symm.trans q.abs)
theorem Vals.inj:∀{xs ys:List V}{us:List NI},Vals xs us->Vals ys us->xs=ys
 | _,_,_,.nil,.nil=>rfl
 | _,_,_,.cons r t,.cons r' t'=>by rw[r.inj r',Vals.inj t t']
section
variable {X:Cx}{pins:List (Addr × Obj)}{σ:St}{H:Hp}{s:NM}{a:Addr}{xs ys:List V}
def SqL.of {K:ND} (h:H a=some (.lst xs)):SqL K H a xs:=.inl (.inl h)
def SqT.of {K:ND} (h:H a=some (.tup xs)):SqT K H a xs:=.inl (.inl h)
def Inv.list (I:Inv X pins σ H s) (h:SqL X.K H a xs):∃its:List NI,Vals xs its/\PlainL s.heap a its.toArray/\xs.length<=sizeLine:=by
 rcases h with h | ⟨o,its,n,hk,hc,hd,hs,hz,r⟩
 ·obtain⟨z,its,n,r,e⟩:=h.ok I.hok
  exact⟨its,r,⟨_,n,e,rfl,rfl,rfl⟩,z⟩
 ·refine⟨its.toList,r,⟨o,n,I.kIn a o hk,hc,hd,by omega⟩,?_⟩
  have e:=r.length
  simp_all
def Inv.tuple (I:Inv X pins σ H s) (h:SqT X.K H a xs):∃its:List NI,Vals xs its/\IsTup s.heap a its.toArray/\xs.length<=sizeLine:=by
 rcases h with h | ⟨o,its,n,hk,hc,hs,hz,r⟩
 ·obtain⟨z,its,r,p⟩:=h.ok I.hok
  exact⟨its,r,p.tup,z⟩
 ·refine⟨its.toList,r,⟨o,I.kIn a o hk,hc,n,by omega⟩,?_⟩
  have e:=r.length
  simp_all
def Inv.mZ (I:Inv X pins σ H s) (h:SqL X.K H a xs) (h':SqL X.K H a ys):xs=ys:=by
 obtain⟨its,r,⟨o,n,e,_,_,d⟩,_⟩:=I.list h
 obtain⟨its',r',⟨o',n',e',_,_,d'⟩,_⟩:=I.list h'
 rw[e] at e';cases e'
 rw[d] at d'
 injection d' with d1 _
 have:its=its':=by simp_all
 subst this
 exact r.inj r'
def Inv.kL (I:Inv X pins σ H s) (h:SqT X.K H a xs) (h':SqT X.K H a ys):xs=ys:=by
 obtain⟨its,r,⟨o,e,_,n,d⟩,_⟩:=I.tuple h
 obtain⟨its',r',⟨o',e',_,n',d'⟩,_⟩:=I.tuple h'
 rw[e] at e';cases e'
 rw[d] at d'
 injection d' with d1 _
 have:its=its':=by simp_all
 subst this
 exact r.inj r'
end
noncomputable abbrev Cx.kM (X:Cx) (E:NI->NM->Prop):Cx:={ X with xe:=E }
noncomputable abbrev Cx.nox (X:Cx):Cx:=X.kM fun _ _=>False
theorem Cx.Ok.kM {X:Cx} (ok:X.Ok) (E):(X.kM E).Ok:=
 ⟨ok.mod,ok.kind,ok.glob,ok.blt,ok.above,ok.inj,ok.has,ok.cab,ok.hd,ok.frames,ok.stk,ok.exf,ok.bs,ok.bsz,ok.pf,ok.tD,ok.g_,ok.frf⟩
def Cx.Ok.eN {X:Cx} (ok:(X.kM E).Ok):X.Ok:=
 ⟨ok.mod,ok.kind,ok.glob,ok.blt,ok.above,ok.inj,ok.has,ok.cab,ok.hd,ok.frames,ok.stk,ok.exf,ok.bs,ok.bsz,ok.pf,ok.tD,ok.g_,ok.frf⟩
section
variable {X:Cx}{pins:List (Addr × Obj)}{σ:St}{H:Hp}{s:NM}{E:NI->NM->Prop}
theorem Inv.kM (I:Inv X pins σ H s) (E):Inv (X.kM E) pins σ H s:=⟨I.ok.kM E,I.os,I.bare,I.base,I.loc,I.cell,I.free,I.cD,I.pin,I.hok,I.len⟩
theorem Inv.eN (I:Inv (X.kM E) pins σ H s):Inv X pins σ H s:=⟨I.ok.eN,I.os,I.bare,I.base,I.loc,I.cell,I.free,I.cD,I.pin,I.hok,I.len⟩
theorem SP.eN (h:SP (X.kM E) pins D f s'):SP X pins D f s':=by
 cases f with
 | next=>obtain⟨σ',H',I,q⟩:=h;exact⟨σ',H',I.eN,q⟩
 | brk=>obtain⟨σ',H',I,q⟩:=h;exact⟨σ',H',I.eN,q⟩
 | cont=>obtain⟨σ',H',I,q⟩:=h;exact⟨σ',H',I.eN,q⟩
 | ret u=>obtain⟨v,σ',H',I,r,q⟩:=h;exact⟨v,σ',H',I.eN,r,q⟩
theorem PE.nox {e:Expr}{t:TE} (h:PE X.nox e t):PE X e t:=fun pins s σ H Q I hw=>
 N6 (h pins s σ H Q (I.kM _) hw) (fun _ _ ⟨v,H',I',r,q⟩=>⟨v,H',I'.eN,r,q⟩) fun _ _ z=>QE z
theorem PT.nox {e:Expr}{t:TT} (h:PT X.nox e t):PT X e t:=fun pins s σ H Q I hw=>
 N6 (h pins s σ H Q (I.kM _) hw) (fun _ _ ⟨H',I',q⟩=>⟨H',I'.eN,q⟩) fun _ _ z=>QE z
theorem PSs.nox {st:List Stmt} (h:PSs X.nox st t):PSs X st t:=fun pins s σ H D I hw=>
 N6 (h pins s σ H D (I.kM _) hw) (fun _ _ q=>q.eN) fun _ _ z=>QE z
end
section
variable {X:Cx}{st:Stmt}{rest:List Stmt}{t u:TS}{e:Expr}{te:TE}{pos:Pos}
noncomputable def Ju:TS:=fun D σ H=>D.nx σ H
noncomputable def L7 (t u:TS):TS:=fun D σ H=>t { D with nx:=u D } σ H
def Eg:PSs X [] Ju:=fun _ _ σ H _ I h=>Q8 ⟨σ,H,I,h⟩
def AH (h1:PS X st t) (h2:PSs X rest u):PSs X (st::rest) (L7 t u):=by
 intro pins s σ H D I h
 refine RM (thn (h1 pins s σ H { D with nx:=u D } I h) fun f s1 q=>?_)
 cases f with
 | next=>
  obtain⟨σ',H',I',q⟩:=q
  exact h2 pins s1 σ' H' D I' q
 | ret v=>exact q
 | brk=>exact q
 | cont=>exact q
def xY (h1:PS X st t):PSs X [st] t:=by
 intro pins s σ H D I h
 refine RM (thn (h1 pins s σ H D I h) fun f s1 q=>?_)
 cases f with
 | next=>exact Q8 q
 | ret v=>exact q
 | brk=>exact q
 | cont=>exact q
def Inv.quiet {pins:List (Addr × Obj)}{σ:St}{H:Hp}{s:NM} (I:Inv X pins σ H s):interactive X.env=false:=by simp[interactive,I.ok.kind]
noncomputable def Kx (te:TE):TS:=fun D σ H=>te σ H fun _ H1=>D.nx σ H1
def Dn (he:PE X e te) (hs:swapsWith e none pos.line X.env=pure false:=by rfl):PS X (.Expr e pos) (Kx te):=by
 intro pins s σ H D I h
 exact wpAny_Expr_any (thn (he pins s σ H _ I h) fun v s1 ⟨x,H1,I1,r1,q1⟩=>⟨σ,H1,I1,q1⟩) I.quiet hs
noncomputable def Mw (te:TE):TS:=fun D σ H=>te σ H D.rt
def Cy (he:PE X e te):PS X (.Return (some e) pos) (Mw te):=by
 intro pins s σ H D I h
 exact wpAny_Return_some (thn (he pins s σ H _ I h) fun v s1 ⟨x,H1,I1,r1,q1⟩=>⟨x,σ,H1,I1,r1,q1⟩)
noncomputable def LS (c:TT) (t u:TS):TS:=fun D σ H=>c σ H fun b H1=>if b=true then t D σ H1 else u D σ H1
def JP {c:Expr}{a b:List Stmt}{tc:TT} (hc:PT X c tc) (ha:PSs X a t) (hb:PSs X b u):PS X (.If c a b pos) (LS tc t u):=by
 intro pins s σ H D I h
 refine wpAny_If (thn (hc pins s σ H _ I h) fun d s1 ⟨H1,I1,q1⟩=>?_)
 cases d with
 | true=>exact ha pins s1 σ H1 D I1 q1
 | false=>exact hb pins s1 σ H1 D I1 q1
end
noncomputable abbrev TG:=V->St->Hp->(St->Hp->Prop)->Prop
noncomputable abbrev TGs:=List V->St->Hp->(St->Hp->Prop)->Prop
def PG (X:Cx) (target:Expr) (t:TG):Prop:=
 ∀pins s (σ:St) H v u Q , Inv X pins σ H s->RelV v u->t v σ H Q →
  wpAny (model X.prog X.w) X.A (assign target X.env u) (fun _ s'=>∃σ' H',Inv X pins σ' H' s'/\Q σ' H') X.xe s
def PGs (X:Cx) (ts:List Expr) (t:TGs):Prop:=
 ∀pins s (σ:St) H vs us Q , Inv X pins σ H s->Vals vs us->t vs σ H Q →
  wpAny (model X.prog X.w) X.A (assignInOrder ((assignEach ts X.env).map (·.2)) us) (fun _ s'=>∃σ' H',Inv X pins σ' H' s'/\Q σ' H') X.xe s
noncomputable abbrev vR:=V->V->V->Hp->(Hp->Prop)->Prop
def EU (X:Cx) (t:vR):Prop:=
 ∀pins s (σ:St) H o i v ov iv u Q , Inv X pins σ H s->RelV o ov->RelV i iv->RelV v u->t o i v H Q →
  wpAny (model X.prog X.w) X.A (setItem ov iv u) (fun _ s'=>∃H',Inv X pins σ H' s'/\Q H') X.xe s
noncomputable abbrev TIp:=V->V->Hp->VK->Prop
def PIp (X:Cx) (op:Operator) (t:TIp):Prop:=
 ∀pins s (σ:St) H x y v u Q , Inv X pins σ H s->RelV x v->RelV y u->t x y H Q →
  wpAny (model X.prog X.w) X.A (inplaceOp op v u) (EP X pins σ Q) X.xe s
section
variable {X:Cx}{pos:Pos}
noncomputable def gq (i:Nat):TG:=fun v σ H Q=>Q (σ.set i (some v)) H
def jP (hN:X.N.Nodup) (hi:X.N[i]?=some x) (hx:Loc X.env.scope x) (hf:X.fn x=true\/X.env.scope.names.lookup x=some .local:=by first | exact .inl rfl | exact .inr rfl | assumption):PG X (.Name x pos) (gq i):=by
 intro pins s σ H v u Q I r h
 exact Sl (gU I hN hi hx r (fun s' I'=>⟨_,H,I',h⟩) hf)
noncomputable def Jj:TGs:=fun vs σ H Q=>vs=[]/\Q σ H
noncomputable def Bi (t:TG) (u:TGs):TGs:=fun vs σ H Q=>∃v r,vs=v::r/\t v σ H fun σ' H'=>u r σ' H' Q
def rZ:PGs X [] Jj:=by
 intro pins s σ H vs us Q I r h
 obtain⟨e,h⟩:=h
 subst e
 cases r
 exact assignInOrder_nil ⟨σ,H,I,h⟩
def fM {e:Expr}{es:List Expr}{t:TG}{u:TGs} (h1:PG X e t) (h2:PGs X es u)
  (hs:(assignEach (e::es) X.env).map (·.2)=assign e X.env::(assignEach es X.env).map (·.2):=by rfl):PGs X (e::es) (Bi t u):=by
 intro pins s σ H vs us Q I r h
 obtain⟨v,vr,e1,h⟩:=h
 subst e1
 cases r with
 | cons r rr=>
  rw[hs]
  refine assignInOrder_cons (thn (h1 pins s σ H _ _ _ I r h) fun _ s1 ⟨σ1,H1,I1,q1⟩=>?_)
  exact h2 pins s1 σ1 H1 _ _ Q I1 rr q1
noncomputable def K3 (K:ND) (n:Nat) (t:TGs):TG:=fun v σ H Q=>∃a xs,v=.ref a/\SqT K H a xs/\xs.length=n/\t xs σ H Q
def vQ {k:Nat} (hc:X.calm=true) (h:PGs X es t)
  (hn:(assignEach es X.env).length=n:=by rfl) (hst:(assignEach es X.env).findIdx? (·.1)=none:=by rfl):PG X (.Tuple es k pos) (K3 X.K n t):=by
 intro pins s σ H v u Q I r hw
 obtain⟨a,xs,e1,hq,hl,hw⟩:=hw
 subst e1
 cases r
 obtain⟨its,rv,ht,hz⟩:=I.tuple hq
 refine assign_Tuple_tuple (I.ok.hd hc) ht (by simp[hn,<- hl,rv.length]) hst fun h' hx=>?_
 have I1:Inv X pins σ H { s with heap:=h' }:=I.kept (t':=s.toks) fun b o e=>hx b o (NU (NJ e)) e
 exact h pins _ σ H xs _ Q I1 (by omega) hw
noncomputable def LZ (to ti:TE) (t:vR):TG:=fun v σ H Q=>to σ H fun o H1=>ti σ H1 fun i H2=>t o i v H2 fun H3=>Q σ H3
def GW {o i:Expr}{to ti:TE}{t:vR} (ho:PE X o to) (hi:PE X i ti) (hs:EU X t)
  (ha:∀v,assign (.Subscript o i pos) X.env v=(do
   let ov ← holding [v] (eval o X.env)
   let iv ← holding [v,ov] (eval i X.env)
   standAt pos
   holding [v,ov,iv] (setItem ov iv v)
   release [v,ov,iv] []):=by intro _;rfl):PG X (.Subscript o i pos) (LZ to ti t):=by
 intro pins s σ H v u Q I r h
 rw[ha]
 refine gV (N9 (thn (ho pins s σ H _ I h) fun ov s1 ⟨x,H1,I1,r1,q1⟩=>?_))
 refine gV (N9 (thn (hi pins s1 σ H1 _ I1 q1) fun iv s2 ⟨y,H2,I2,r2,q2⟩=>?_))
 refine gV (OV (gV (N9 (thn (hs pins s2 σ H2 x y v ov iv u _ I2 r1 r2 r q2) fun _ s3 ⟨H3,I3,q3⟩=>?_))))
 exact wpAny_release ⟨σ,H3,I3,q3⟩
noncomputable def Fm (te:TE) (g:TG):TS:=fun D σ H=>te σ H fun x H1=>g x σ H1 D.nx
def Ik {tg e:Expr}{te:TE}{g:TG} (he:PE X e te) (hg:PG X tg g) (hs:swapsWithSole [tg] e pos.line X.env=pure false:=by rfl) (hw:swappedStores [tg] e X.env=pure none:=by rfl)
  (h1:(assignEach [tg] X.env).map (·.2)=[assign tg X.env]:=by rfl):PS X (.Assign [tg] e pos) (Fm te g):=by
 intro pins s σ H D I h
 refine wpAny_Assign_stores (thn (he pins s σ H _ I h) fun v s1 ⟨x,H1,I1,r1,q1⟩=>?_) hs hw
 rw[h1]
 exact thn (hg pins s1 σ H1 x v _ I1 r1 q1) fun _ s2 q=>q
def Gy {i:Nat}{x:Str}{e:Expr}{te:TE}{pos':Pos} (hN:X.N.Nodup) (hi:X.N[i]?=some x) (hx:Loc X.env.scope x) (he:PE X e te) (hs:swapsWith e (some (.Name x pos')) pos.line X.env=pure false:=by rfl) (hf:X.fn x=true\/X.env.scope.names.lookup x=some .local:=by first | exact .inl rfl | exact .inr rfl | assumption) :
  PS X (.Assign [.Name x pos'] e pos) (Fm te (gq i)):=by
 intro pins s σ H D I h
 refine wpAny_Assign_Name (thn (he pins s σ H _ I h) fun v s1 ⟨y,H1,I1,r1,q1⟩=>?_) hs
 exact gU I1 hN hi hx r1 (fun s2 I2=>⟨_,H1,I2,q1⟩) hf
noncomputable def Lm (to ti te:TE) (tget:V->V->Hp->VK->Prop) (tip:TIp) (tset:vR):TS:=fun D σ H=>to σ H fun o H1=>ti σ H1 fun i H2=>tget o i H2 fun x H3=>te σ H3 fun y H4=>tip x y H4 fun z H5=>tset o i z H5 fun H6=>D.nx σ H6
def Jy (X:Cx) (t:V->V->Hp->VK->Prop):Prop:=
 ∀pins s (σ:St) H o i ov iv Q , Inv X pins σ H s->RelV o ov->RelV i iv->t o i H Q →
  wpAny (model X.prog X.w) X.A (getItem ov iv) (EP X pins σ Q) X.xe s
def E6 {o i e:Expr}{to ti te:TE}{tget:V->V->Hp->VK->Prop}{tip:TIp}{tset:vR}{op:Operator}{tpos:Pos} (ho:PE X o to) (hi:PE X i ti) (hg:Jy X tget) (he:PE X e te) (hp:PIp X op tip) (hs:EU X tset)
  (ha:∀ov iv new,augStore i ov iv new=(do holding [new,ov,iv] (setItem ov iv new);release [new,ov,iv] [];pure .next):=by intros;rfl):PS X (.AugAssign (.Subscript o i tpos) op e pos) (Lm to ti te tget tip tset):=by
 intro pins s σ H D I h
 refine wpAny_AugAssign_SubscriptAny (thn (ho pins s σ H _ I h) fun ov s1 ⟨x1,H1,I1,r1,q1⟩=>?_) ha
 refine thn (hi pins s1 σ H1 _ I1 q1) fun iv s2 ⟨x2,H2,I2,r2,q2⟩=>?_
 refine thn (hg pins s2 σ H2 x1 x2 ov iv _ I2 r1 r2 q2) fun old s3 ⟨x3,H3,I3,r3,q3⟩=>?_
 refine thn (he pins s3 σ H3 _ I3 q3) fun v s4 ⟨x4,H4,I4,r4,q4⟩=>?_
 refine thn (hp pins s4 σ H4 x3 x4 old v _ I4 r3 r4 q4) fun new s5 ⟨x5,H5,I5,r5,q5⟩=>?_
 exact thn (hs pins s5 σ H5 x1 x2 x5 ov iv new _ I5 r1 r2 r5 q5) fun _ s6 ⟨H6,I6,q6⟩=>⟨σ,H6,I6,q6⟩
noncomputable def ipI (f:Int->Int->Int):TIp:=fun x y H Q=>∃i j,x=.int i/\y=.int j/\Q (.int (f i j)) H
def HC:PIp X .Add (ipI fun i j=>i+j):=by
 intro pins s σ H x y v u Q I r1 r2 h
 obtain⟨i,j,e1,e2,q⟩:=h
 subst e1;subst e2
 obtain⟨t,rfl⟩:=r1
 obtain⟨t',rfl⟩:=r2
 exact iadd_int ⟨.int _,H,I.tok _,⟨_,rfl⟩,q⟩
end
structure It where
 go:Nat->Hp->Prop
 yld:Nat->Hp->V->Hp->Prop
 stop:Nat->Hp->Prop
def lP (X:Cx) (pins:List (Addr × Obj)) (H:Hp) (b:Addr):Prop:=
 H b=none/\b≠X.env.locals/\b∉X.fs/\(b∈X.ex\/X.ax.heap.objs.size<=b)/\(∀x c,X.env.cells.lookup x=some c->c≠b)/\∀p∈X.pn++pins,p.1≠b
def Inv.EJ {σ:St}{b:Addr} (I:Inv X pins σ H s) (hb:s.heap.objs.size<=b) (hn:H' b=none):lP X pins H' b:=by
 refine⟨hn,Pu (N7 I.lt hb),I.Iv hb,.inr (N4 I.sz hb),fun x c e z=>?_,fun p hp z=>?_⟩
 ·obtain⟨v,q⟩:=I.cell x c e
  exact absurd (N7 q.lt (by simp_all)) (O7 _)
 ·exact absurd (N7 (NJ (I.pin p hp).1) (by simp_all)) (O7 _)
structure Turn (P) (w) (K) (tg) (J:It) (fp:List Addr) (it) (tn:Nat->Heap->Prop):Prop where
 mem:it∈fp
 obj:∀i h,tn i h->∀b∈fp,∃o,h.get? b=some o/\∀v,o.data≠.cell v
 keep:∀i h h',tn i h->(∀b∈fp,∀o,h.get? b=some o->h'.get? b=some o)->tn i h'
 item:∀X , X.prog=P->X.w=w->X.K=K->X.calm=true->∀i pins s (σ:St) H E , Inv X pins σ H s->(∀b∈fp,lP X pins H b)->tn i s.heap->J.go i H →
  wpAny (model P w) X.A (pyNext (.ref it)) (fun r s1=>∃u,r=some u ∧
   wpAny (model P w) X.A (letOwnedTupleGo tg (.ref it) u) (fun _ s2=>∃x H',Inv X pins σ H' s2/\RelV x u/\J.yld i H x H'/\tn (i+1) s2.heap/\∀b∈fp,H' b=none) E s1) E s
 done:∀X , X.prog=P->X.w=w->X.K=K->X.calm=true->∀i pins s (σ:St) H E , Inv X pins σ H s->(∀b∈fp,lP X pins H b)->tn i s.heap->J.stop i H →
  wpAny (model P w) X.A (pyNext (.ref it)) (fun r s1=>r=none/\Inv X pins σ H s1) E s
 self:∀A i s Q E , tn i s.heap->Q (.ref it) s->wpAny (model P w) A (pyIter (.ref it)) Q E s
noncomputable abbrev TI:=St->Hp->(It->Hp->Prop)->Prop
def PIE (X:Cx) (pins:List (Addr × Obj)) (σ:St) (tg:Expr) (R:It->Hp->Prop) (itv:NI) (s2:NM):Prop:=
 ∃it fp tn J H',itv=.ref it/\Inv X pins σ H' s2/\Turn X.prog X.w X.K tg J fp it tn/\tn 0 s2.heap/\(∀b∈fp,lP X pins H' b)/\R J H'
def PI (X:Cx) (tg iter:Expr) (wi:TI):Prop:=
 ∀pins s (σ:St) H R , Inv X pins σ H s->wi σ H R →
  wpAny (model X.prog X.w) X.A (eval iter X.env) (fun v s1=>wpAny (model X.prog X.w) X.A (pyIter v) (PIE X pins σ tg R) X.xe s1) X.xe s
def De (ho:s.heap.get? it=some o) (hc:o.cls=.type n) (hd:o.data=.fields vs)
  (hn:["enumerate", "zip", "dict_itemiterator", "dict_reverseitemiterator", "odict_iterator", "itertools.zip_longest", "itertools.pairwise"].contains n=false) (hQ:Q () s):wpAny M A (letOwnedTupleGo tg (.ref it) u) Q E s:=by
 unfold letOwnedTupleGo
 cases tg<;>first
  | exact NG hQ
  | (cases u<;>first
    | exact NG hQ
    | (refine gV (Uc ho ?_)
       rw[hc,hd]
       show wpAny M A (if (["enumerate", "zip", "dict_itemiterator", "dict_reverseitemiterator", "odict_iterator", "itertools.zip_longest", "itertools.pairwise"].contains n&&vs[0]? == some (rawInt _))=true then _ else _) Q E s
       rw[if_neg (by simp_all)]
       exact NG hQ))
noncomputable def Itl (K:ND) (a:Addr):It:=
 ⟨fun i H=>∃xs x,SqL K H a xs/\xs[i]?=some x,fun i H x H'=>H'=H/\∀xs,SqL K H a xs->xs[i]?=some x,fun i H=>∃xs,SqL K H a xs/\xs.length<=i⟩
noncomputable def Itt (K:ND) (a:Addr):It:=
 ⟨fun i H=>∃xs x,SqT K H a xs/\xs[i]?=some x,fun i H x H'=>H'=H/\∀xs,SqT K H a xs->xs[i]?=some x,fun i H=>∃xs,SqT K H a xs/\xs.length<=i⟩
noncomputable def Itr (lo:Int) (n:Nat):It:=⟨fun i _=>i<n,fun i H x H'=>H'=H/\x=.int (lo+i),fun i _=>n<=i⟩
def zi {K:ND} (a it):Turn P w K tg (Itl K a) [it] it (fun i h=>h.IsListIter it a i) where
 mem:=by simp
 obj:=fun i h st b hb=>by
  have e:b=it:=by simp_all
  subst e
  obtain⟨o,e,c,d⟩:=st
  simp_all
 keep:=fun i h h' st k=>st.at fun o e=>k it (by simp) o e
 item:=by
  intro X hP hw hK hc i pins s σ H E I hf st hg
  subst hP hw hK
  obtain⟨xs,x,hq,hx⟩:=hg
  obtain⟨its,rv,p,hz⟩:=I.list hq
  obtain⟨u,hu,ru⟩:=rv.get hx
  obtain⟨f0,f1,f2,f3,f4,f5⟩:=hf it (by simp)
  refine wpAny_pyNext_list_item st p.isList (x:=u) (by simp_all) fun h' st' sb=>?_
  have I1:Inv X pins σ H { s with heap:=h' }:=I.turned (t':=s.toks) (fun b o hb e=>(sb.2 b hb).trans e) f0 f1 f3 f4 f5
  obtain⟨o,e,c,d⟩:=id st'
  exact⟨u,rfl,De (s:={ s with heap:=h' }) e c d (by decide) ⟨x,H,I1,ru,⟨rfl,fun ys hy=>by rw[I.mZ hy hq];exact hx⟩,st',fun b hb=>(hf b hb).1⟩⟩
 done:=by
  intro X hP hw hK hc i pins s σ H E I hf st hg
  subst hP hw hK
  obtain⟨xs,hq,hx⟩:=hg
  obtain⟨its,rv,p,hz⟩:=I.list hq
  obtain⟨f0,f1,f2,f3,f4,f5⟩:=hf it (by simp)
  have hl:=rv.length
  exact wpAny_pyNext_list_end (I.ok.hd hc) st p.isList (by grind) fun h' eb=>⟨rfl,I.turned (t':=s.toks) (fun b o hb e=>eb b o hb e) f0 f1 f3 f4 f5⟩
 self:=fun _ _ _ _ _ st h=>wpAny_pyIter_listiter st h
def wk {K:ND} (a it):Turn P w K tg (Itt K a) [it] it (fun i h=>h.IsTupleIter it a i) where
 mem:=by simp
 obj:=fun i h st b hb=>by
  have e:b=it:=by simp_all
  subst e
  obtain⟨o,e,c,d⟩:=st
  simp_all
 keep:=fun i h h' st k=>st.at fun o e=>k it (by simp) o e
 item:=by
  intro X hP hw hK hc i pins s σ H E I hf st hg
  subst hP hw hK
  obtain⟨xs,x,hq,hx⟩:=hg
  obtain⟨its,rv,p,hz⟩:=I.tuple hq
  obtain⟨u,hu,ru⟩:=rv.get hx
  obtain⟨f0,f1,f2,f3,f4,f5⟩:=hf it (by simp)
  refine wpAny_pyNext_tuple_item st (show s.heap.IsTuple a its.toArray from p) (x:=u) (by simp_all) fun h' st' sb=>?_
  have I1:Inv X pins σ H { s with heap:=h' }:=I.turned (t':=s.toks) (fun b o hb e=>(sb.2 b hb).trans e) f0 f1 f3 f4 f5
  obtain⟨o,e,c,d⟩:=id st'
  exact⟨u,rfl,De (s:={ s with heap:=h' }) e c d (by decide) ⟨x,H,I1,ru,⟨rfl,fun ys hy=>by rw[I.kL hy hq];exact hx⟩,st',fun b hb=>(hf b hb).1⟩⟩
 done:=by
  intro X hP hw hK hc i pins s σ H E I hf st hg
  subst hP hw hK
  obtain⟨xs,hq,hx⟩:=hg
  obtain⟨its,rv,p,hz⟩:=I.tuple hq
  obtain⟨f0,f1,f2,f3,f4,f5⟩:=hf it (by simp)
  have hl:=rv.length
  exact wpAny_pyNext_tuple_end (I.ok.hd hc) st (show s.heap.IsTuple a its.toArray from p) (by grind) fun h' eb=>⟨rfl,I.turned (t':=s.toks) (fun b o hb e=>eb b o hb e) f0 f1 f3 f4 f5⟩
 self:=fun _ _ _ _ _ st h=>wpAny_pyIter_tupleiter st h
def vX {K:ND} (it) (lo) (n):Turn P w K tg (Itr lo n) [it] it (fun i h=>IsRangeIter h it (lo+(i:Nat)*1) ((n:Int) - (i:Nat)) 1) where
 mem:=by simp
 obj:=fun i h st b hb=>by
  simp_all
 keep:=fun i h h' st k=>k it (by simp) _ st
 item:=by
  intro X hP hw hK hc i pins s σ H E I hf st hg
  subst hP hw hK
  obtain⟨f0,f1,f2,f3,f4,f5⟩:=hf it (by simp)
  have W:=Ur.range (prog:=X.prog) (w:=X.w) (I.ok.hd hc) it lo 1 n
  refine W.item i s _ _ hg st fun v h' tk hv st' kk=>?_
  obtain⟨t,rfl⟩:=hv
  have I1:Inv X pins σ H { s with heap:=h',toks:=tk }:=I.turned (fun b o hb e=>kk b o (by simp_all) e) f0 f1 f3 f4 f5
  refine⟨_,rfl,De (s:={ s with heap:=h',toks:=tk }) (n:="range_iterator") st' rfl rfl (by decide) ⟨.int (lo+i),H,I1,⟨t,?_⟩,⟨rfl,rfl⟩,st',fun b hb=>(hf b hb).1⟩⟩
  simp
 done:=by
  intro X hP hw hK hc i pins s σ H E I hf st hg
  subst hP hw hK
  obtain⟨f0,f1,f2,f3,f4,f5⟩:=hf it (by simp)
  exact wpAny_pyNext_range_end (I.ok.hd hc) st (by have:n<=i:=hg;omega) fun h' eb=>⟨rfl,I.turned (t':=s.toks) (fun b o hb e=>eb b o hb e) f0 f1 f3 f4 f5⟩
 self:=fun _ _ _ _ _ st h=>wpAny_pyIter_rangeiter st h
section
variable {X:Cx}{tg:Expr}
def u9 {σ:St}{lo hi:Int} (I:Inv X pins σ H s) (h1:-(2 ^ 62)<=lo) (h2:lo<2 ^ 62) (h3:-(2 ^ 62)<=hi) (h4:hi<2 ^ 62)
  (q:R (Itr lo (hi - lo).toNat) H):wpAny (model X.prog X.w) X.A (pyIter (.ref s.heap.objs.size)) (PIE X pins σ tg R) E { s with heap:=s.heap.push { cls:=.type "range", data:=.fields #[.int lo t,.int hi u,.int 1 v] },toks:=tk }:=by
 refine wpAny_pyIter_range (IsRange.new ..) (small_one h1 h2 h3 h4) ?_
 have I1:Inv X pins σ H { s with heap:=s.heap.push { cls:=.type "range", data:=.fields #[.int lo t,.int hi u,.int 1 v] },toks:=tk }:=I.kept fun b o e=>NF _ e
 refine⟨(s.heap.push { cls:=.type "range", data:=.fields #[.int lo t,.int hi u,.int 1 v] }).objs.size,[(s.heap.push { cls:=.type "range", data:=.fields #[.int lo t,.int hi u,.int 1 v] }).objs.size],_,_,H,rfl,
  I1.kept (t':=tk) fun b o e=>NF _ e,vX _ lo (hi - lo).toNat,?_,fun b hb=>?_,q⟩
 ·have e1:lo+((0:Nat):Int)*1=lo:=by simp
  have e2:(((hi - lo).toNat:Nat):Int) - ((0:Nat):Int)=Ow.Range.rangeSize lo hi 1:=by rw[rangeSize_one];omega
  show IsRangeIter _ _ (lo+((0:Nat):Int)*1) ((((hi - lo).toNat:Nat):Int) - ((0:Nat):Int)) 1
  rw[e1,e2]
  exact NN _ rfl
 ·have e:b=(s.heap.push { cls:=.type "range", data:=.fields #[.int lo t,.int hi u,.int 1 v] }).objs.size:=by simp_all
  subst e
  exact I1.EJ (NK _) (I1.hok.fresh (NK _))
noncomputable def Jz (ta:TA):TI:=fun σ H R=>ta σ H fun vs H1=>∃j:Int,vs=[.int j]/\-(2 ^ 62)<=j/\j<2 ^ 62/\R (Itr 0 j.toNat) H1
noncomputable def Jn (ta:TA):TI:=fun σ H R=>ta σ H fun vs H1=>∃i j:Int,vs=[.int i,.int j]/\(-(2 ^ 62)<=i/\i<2 ^ 62/\-(2 ^ 62)<=j/\j<2 ^ 62)/\R (Itr i (j - i).toNat) H1
def zj {a:Expr}{ta:TA}{p pos:Pos} (hg:Gl X "range") (hm:X.mg "range" = none) (ha:PA X [a] ta) (hs:starEach [a] X.env=[(false,eval a X.env)]:=by rfl):PI X tg (.Call (.Name "range" p) [a] [] pos) (Jz ta):=by
 intro pins s σ H R I h
 refine Call_ (jY I hg hm boot_range (PL (thn (ha pos pins s σ H _ I h) fun us s1 ⟨vs,H1,I1,r1,q1⟩=>?_) hs rfl))
 obtain⟨j,e,q1,q2,q⟩:=q1
 subst e
 cases r1 with
 | cons r rr=>
  cases rr
  obtain⟨t,rfl⟩:=r
  exact call_range_1 (u9 I1 (by omega) (by omega) q1 q2 (by simp_all))
def zX {a b:Expr}{ta:TA}{p pos:Pos} (hg:Gl X "range") (hm:X.mg "range" = none) (ha:PA X [a,b] ta) (hs:starEach [a,b] X.env=[(false,eval a X.env),(false,eval b X.env)]:=by rfl) (hs2:starEach [b] X.env=[(false,eval b X.env)]:=by rfl) :
  PI X tg (.Call (.Name "range" p) [a,b] [] pos) (Jn ta):=by
 intro pins s σ H R I h
 refine Call_ (jY I hg hm boot_range (PL (thn (ha pos pins s σ H _ I h) fun us s1 ⟨vs,H1,I1,r1,q1⟩=>?_) (by grind) (by rw[hs2];rfl)))
 obtain⟨i,j,e,⟨q1,q2,q3,q4⟩,q⟩:=q1
 subst e
 cases r1 with
 | cons r rr=>
  cases rr with
  | cons r' rr=>
   cases rr
   obtain⟨t,rfl⟩:=r
   obtain⟨t',rfl⟩:=r'
   exact call_range_2 (u9 I1 q1 q2 q3 q4 q)
noncomputable def LF (wi:TI) (g:TG) (tb:TS):TS:=fun D σ H=>wi σ H fun J H1=>∃W:Nat->Nat->St->Hp->Prop,(∃m,W 0 m σ H1)/\∀i m σ H,W i m σ H →
 (J.stop i H/\D.nx σ H)\/(J.go i H/\∃N:St->Hp->Prop,(∀σ' H',N σ' H'->∃m',m'<m/\W (i+1) m' σ' H')/\∀x H',J.yld i H x H'->g x σ H' fun σ2 H2=>tb { D with nx:=N,ct:=N,bk:=D.nx } σ2 H2)
noncomputable def gX (fp:List Addr) (h:Heap):List (Addr × Obj):=fp.filterMap fun b=>(h.get? b).map fun o=>(b,o)
def cu (hb:b∈fp) (e:h.get? b=some o):(b,o)∈gX fp h:=Q9.mpr ⟨b,hb,by grind⟩
def yS (hp:p∈gX fp h):p.1∈fp/\h.get? p.1=some p.2:=by
 obtain⟨b,hb,e⟩:=Q9.mp hp
 cases q:h.get? b with
 | none=>simp_all
 | some o=>
  grind
def Inv.pinned {σ:St} (I:Inv X pins σ H s) (hf:∀b∈fp,lP X pins H b) (ho:∀b∈fp,∃o,s.heap.get? b=some o/\∀v,o.data≠.cell v):Inv X (pins++gX fp s.heap) σ H s:=
 I.jD fun p hp=>(Ou.mp hp).elim (fun z=>I.pin p (NP _ z)) fun z=>by
  obtain⟨hb,e⟩:=yS z
  obtain⟨f0,f1,f2,_⟩:=hf p.1 hb
  grind
def Inv.fO {σ:St} (I:Inv X (pins++pl) σ H s):Inv X pins σ H s:=I.jD fun p hp=>I.pin p (NP _ (Pz _ hp))
def Hk {iter:Expr}{body:List Stmt}{wi:TI}{g:TG}{tb:TS}{pos:Pos} (hp:Sm (model X.prog X.w) X.A X.env X.xe) (hc:X.calm=true) (hi:PI X tg iter wi) (hg:PG X tg g) (hb:PSs X body tb)
  (hs:∀x,foldedSetIterable iter X.env x=pure x:=by intro _;rfl):PS X (.For tg iter body [] pos) (LF wi g tb):=by
 intro pins s σ H D I h
 refine wpAny_For (thn (hi pins s σ H _ I h) fun v s1 h1=>thn h1 fun itv s2 h2=>?_) hs
 obtain⟨it,fp,tn,J,H2,e,I2,T,st2,f2,W,⟨m0,w0⟩,turn⟩:=h2
 subst e
 -- what stays true of the iterator's objects through the loop
 have stat:∀{H':Hp},(∀b∈fp,H' b=none)->∀b∈fp,lP X pins H' b:=fun hn b hb=>⟨hn b hb,(f2 b hb).2⟩
 refine codeAny_forLoop_any (fun n s'=>∃i σ' H',Inv X pins σ' H' s'/\tn i s'.heap/\(∀b∈fp,H' b=none)/\W i n σ' H') ?_ m0 ⟨0,σ,H2,I2,st2,fun b hb=>(f2 b hb).1,w0⟩
 rintro n s3 ⟨i,σ3,H3,I3,st3,fr3,w3⟩
 rcases turn i n σ3 H3 w3 with⟨stop,qn⟩ | ⟨go,N,hN,step⟩
 ·refine Q_ hp (thn (T.done X rfl rfl rfl hc i pins s3 σ3 H3 X.xe I3 (stat fr3) st3 stop) fun r s4 ⟨hr,I4⟩=>?_)
  subst hr
  exact Q8 ⟨σ3,H3,I4,qn⟩
 ·refine Q_ hp (thn (T.item X rfl rfl rfl hc i pins s3 σ3 H3 X.xe I3 (stat fr3) st3 go) fun r s4 ⟨u,hr,h4⟩=>?_)
  subst hr
  refine Q_ hp (thn h4 fun _ s5 ⟨x,H5,I5,r5,y5,st5,fr5⟩=>?_)
  have I5':=I5.pinned (stat fr5) (T.obj _ _ st5)
  refine Q_ hp (thn (hg _ s5 σ3 H5 x u _ I5' r5 (step x H5 y5)) fun _ s6 ⟨σ6,H6,I6,q6⟩=>?_)
  refine Q_ hp (thn (hb _ s6 σ6 H6 _ I6 q6) fun f s7 q7=>?_)
  have again:∀{σ7:St} {H7:Hp},Inv X (pins++gX fp s5.heap) σ7 H7 s7->N σ7 H7->∃m,m<n/\∃i σ' H',Inv X pins σ' H' s7/\tn i s7.heap/\(∀b∈fp,H' b=none)/\W i m σ' H':=fun{σ7 H7} I7 n7=>by
   obtain⟨m',hm,w7⟩:=hN σ7 H7 n7
   refine⟨m',hm,i+1,σ7,H7,I7.fO,T.keep _ _ _ st5 fun b hb o e=>(I7.pin (b,o) (NP _ (NP _ (cu hb e)))).1,fun b hb=>?_,w7⟩
   obtain⟨o,e,d⟩:=T.obj _ _ st5 b hb
   exact(I7.pin (b,o) (NP _ (NP _ (cu hb e)))).2.1
  cases f with
  | next=>obtain⟨σ7,H7,I7,n7⟩:=q7;grind
  | cont=>obtain⟨σ7,H7,I7,n7⟩:=q7;grind
  | brk=>obtain⟨σ7,H7,I7,q7⟩:=q7;exact⟨σ7,H7,I7.fO,q7⟩
  | ret v=>obtain⟨x7,σ7,H7,I7,r7,q7⟩:=q7;exact⟨x7,σ7,H7,I7.fO,r7,q7⟩
end
noncomputable abbrev R2:=V->V->Hp->VK->Prop
def OpR (X:Cx) (f:NI->NI->Sem NI) (r:R2):Prop:=
 ∀pins s (σ:St) H x y v u Q , Inv X pins σ H s->RelV x v->RelV y u->r x y H Q →
  wpAny (model X.prog X.w) X.A (f v u) (EP X pins σ Q) X.xe s
def UnR (X:Cx) (f:NI->Sem NI) (r:V->Hp->VK->Prop):Prop:=
 ∀pins s (σ:St) H x v Q , Inv X pins σ H s->RelV x v->r x H Q →
  wpAny (model X.prog X.w) X.A (f v) (EP X pins σ Q) X.xe s
def aV (X:Cx) (f:NI) (r:List V->Hp->VK->Prop):Prop:=
 ∀pins s (σ:St) H xs us Q , Inv X pins σ H s->Vals xs us->r xs H Q →
  wpAny (model X.prog X.w) X.A (call f us) (EP X pins σ Q) X.xe s
def Me (X:Cx) (r:V->Hp->(Bool->Hp->Prop)->Prop):Prop:=
 ∀pins s (σ:St) H x v Q , Inv X pins σ H s->RelV x v->r x H Q →
  wpAny (model X.prog X.w) X.A (truthy v) (TP X pins σ Q) X.xe s
noncomputable def tOp (r:R2) (ta tb:TE):TE:=fun σ H Q=>ta σ H fun x H1=>tb σ H1 fun y H2=>r x y H2 Q
noncomputable def tUn (r:V->Hp->VK->Prop) (ta:TE):TE:=fun σ H Q=>ta σ H fun x H1=>r x H1 Q
noncomputable def rI (C:Int->Int->Prop) (g:Int->Int->V):R2:=fun x y H Q=>∃i j,x=.int i/\y=.int j/\C i j/\Q (g i j) H
noncomputable def rI0 (g:Int->Int->V):R2:=fun x y H Q=>∃i j,x=.int i/\y=.int j/\Q (g i j) H
def rU (g:Int->V):V->Hp->VK->Prop:=fun x H Q=>∃i,x=.int i/\Q (g i) H
section
variable {X:Cx}{a b c:Expr}{ta tb tc:TE}{pos:Pos}
def HK (ha:PE X a ta) (hb:PE X b tb){σ:St}{R:V->V->Hp->Prop} (I:Inv X pins σ H s)
  (h:ta σ H fun x H1=>tb σ H1 fun y H2=>R x y H2) {f:NI->NI->Sem NI}
  (hf:∀v u s2 x y H2,Inv X pins σ H2 s2->RelV x v->RelV y u->R x y H2->wpAny (model X.prog X.w) X.A (f v u) Q X.xe s2) :
  wpAny (model X.prog X.w) X.A (eval a X.env) (fun v s₁=>wpAny (model X.prog X.w) X.A (eval b X.env) (fun u s₂=>wpAny (model X.prog X.w) X.A (f v u) Q X.xe s₂) X.xe s₁) X.xe s:=by
 refine thn (ha pins s σ H _ I h) fun v s1 ⟨x,H1,I1,r1,q1⟩=>?_
 refine thn (hb pins s1 σ H1 _ I1 q1) fun u s2 ⟨y,H2,I2,r2,q2⟩=>?_
 grind
def JF (ho:OpR X (binaryOp op) r) (ha:PE X a ta) (hb:PE X b tb):PE X (.BinOp a op b pos) (tOp r ta tb):=by
 intro pins s σ H Q I h
 exact wpAny_BinOp (HK ha hb I h fun v u s2 x y H2 I2 rx ry q=>ho pins s2 σ H2 x y v u Q I2 rx ry q)
def Kh {op:UnaryOp}{r:V->Hp->VK->Prop} (ho:UnR X (unaryOp op) r) (ha:PE X a ta):PE X (.UnaryOp op a pos) (tUn r ta):=by
 intro pins s σ H Q I h
 exact UnaryOp_ (thn (ha pins s σ H _ I h) fun v s1 ⟨x,H1,I1,r1,q1⟩=>ho pins s1 σ H1 x v Q I1 r1 q1)
def opI {g:Int->Int->Int}
  (rule:∀i j t u s Q E , C i j->Q (.int (g i j) s.toks) { s with toks:=s.toks+1 }->wpAny (model X.prog X.w) X.A (f (.int i t) (.int j u)) Q E s) :
  OpR X f (rI C fun i j=>.int (g i j)):=by
 intro pins s σ H x y v u Q I rx ry h
 obtain⟨i,j,rfl,rfl,hc,q⟩:=h
 obtain⟨t,rfl⟩:=rx
 obtain⟨t',rfl⟩:=ry
 exact rule i j t t' s _ _ hc ⟨.int (g i j),H,I.tok _,⟨_,rfl⟩,q⟩
def KY {g:Int->Int->Int}
  (rule:∀i j t u s Q E , Q (.int (g i j) s.toks) { s with toks:=s.toks+1 }->wpAny (model X.prog X.w) X.A (f (.int i t) (.int j u)) Q E s) :
  OpR X f (rI0 fun i j=>.int (g i j)):=by
 intro pins s σ H x y v u Q I rx ry h
 obtain⟨i,j,rfl,rfl,q⟩:=h
 obtain⟨t,rfl⟩:=rx
 obtain⟨t',rfl⟩:=ry
 exact rule i j t t' s _ _ ⟨.int (g i j),H,I.tok _,⟨_,rfl⟩,q⟩
def Ek {g:Int->Int->Bool}
  (rule:∀i j t u s Q E , Q (.bool (g i j)) s->wpAny (model X.prog X.w) X.A (f (.int i t) (.int j u)) Q E s) :
  OpR X f (rI0 fun i j=>.bl (g i j)):=by
 intro pins s σ H x y v u Q I rx ry h
 obtain⟨i,j,rfl,rfl,q⟩:=h
 obtain⟨t,rfl⟩:=rx
 obtain⟨t',rfl⟩:=ry
 exact rule i j t t' s _ _ ⟨.bl (g i j),H,I,rfl,q⟩
def HP:OpR X (binaryOp .Add) (rI0 fun i j=>.int (i+j)):=KY fun _ _ _ _ _ _ _ q=>add_int q
def GX:OpR X (binaryOp .Sub) (rI0 fun i j=>.int (i - j)):=KY fun _ _ _ _ _ _ _ q=>sub_int q
def GU:OpR X (binaryOp .Mod) (rI (fun _ j=>0<j) fun i j=>.int (i % j)):=opI fun i j _ _ _ _ _ hc q=>by
 have h1:(0:Int)<j:=hc
 exact mod_int' (by omega) (by grind)
def unI {g:Int->Int}
  (rule:∀i t s Q E , Q (.int (g i) s.toks) { s with toks:=s.toks+1 }->wpAny (model X.prog X.w) X.A (f (.int i t)) Q E s) :
  UnR X f (rU fun i=>.int (g i)):=by
 intro pins s σ H x v Q I rx h
 obtain⟨i,rfl,q⟩:=h
 obtain⟨t,rfl⟩:=rx
 exact rule i t s _ _ ⟨.int (g i),H,I.tok _,⟨_,rfl⟩,q⟩
def wA:UnR X (unaryOp .USub) (rU fun i=>.int (-i)):=unI fun _ _ _ _ _ q=>neg_int q
end
section
variable {X:Cx}{a b c:Expr}{ta tb tc:TE}{pos:Pos}
def FO:OpR X (compareOp .Lt) (rI0 fun i j=>.bl (decide (i<j))):=Ek fun _ _ _ _ _ _ _ q=>lt_int q
def xJ:OpR X (compareOp .LtE) (rI0 fun i j=>.bl (decide (i<=j))):=Ek fun _ _ _ _ _ _ _ q=>le_int q
def K4:OpR X (compareOp .Gt) (rI0 fun i j=>.bl (decide (j<i))):=Ek fun _ _ _ _ _ _ _ q=>gt_int q
def Kz:OpR X (compareOp .GtE) (rI0 fun i j=>.bl (decide (j<=i))):=Ek fun _ _ _ _ _ _ _ q=>ge_int q
def cg (b) (h:op≠.In:=by decide) (h2:op≠.NotIn:=by decide):behindInMarks op b=false:=by
 have e1:(op == CmpOp.In)=false:=by simp_all
 have e2:(op == CmpOp.NotIn)=false:=by simp_all
 cases b<;>simp[behindInMarks,e1,e2]
def DQ (ho:OpR X (compareOp op) r) (ha:PE X a ta) (hb:PE X b tb) (hm:behindInMarks op b=false):PE X (.Compare a [op] [b] pos) (tOp r ta tb):=by
 intro pins s σ H Q I h
 exact wpAny_Compare1 (HK ha hb I h fun v u s2 x y H2 I2 rx ry q=>ho pins s2 σ H2 x y v u Q I2 rx ry q) hm
noncomputable def Ap (t:TE):TT:=fun σ H Q=>t σ H fun x H'=>∃k,x=.bl k/\Q k H'
def DS {op:CmpOp}{r:R2} (ho:OpR X (compareOp op) r) (ha:PE X a ta) (hb:PE X b tb) (hm:behindInMarks op b=false):PT X (.Compare a [op] [b] pos) (Ap (tOp r ta tb)):=by
 intro pins s σ H Q I h
 refine wpAny_isTrue_Compare1 (thn (ha pins s σ H _ I h) fun v s1 ⟨x,H1,I1,r1,q1⟩=>thn (hb pins s1 σ H1 _ I1 q1) fun u s2 ⟨y,H2,I2,r2,q2⟩=>
  thn (ho pins s2 σ H2 x y v u _ I2 r1 r2 q2) fun c s3 ⟨z,H3,I3,r3,k,e,q3⟩=>?_) hm
 subst e
 cases r3
 exact PH ⟨H3,I3,q3⟩
noncomputable def vV (r r':R2) (ta tb tc:TE):TE:=fun σ H Q=>ta σ H fun x H1=>tb σ H1 fun y H2=>r x y H2 fun z H3=>∃k,z=.bl k ∧
 (if k=true then tc σ H3 fun w' H4=>r' y w' H4 Q else Q (.bl false) H3)
def AN {op op':CmpOp}{r r':R2} (ho:OpR X (compareOp op) r) (ho':OpR X (compareOp op') r') (ha:PE X a ta) (hb:PE X b tb) (hc:PE X c tc)
  (hm:lastMarks [op,op'] [b,c]=false:=by with_unfolding_all rfl):PE X (.Compare a [op,op'] [b,c] pos) (vV r r' ta tb tc):=by
 intro pins s σ H Q I h
 refine Compare_chain (thn (ha pins s σ H _ I h) fun v s1 ⟨x,H1,I1,r1,q1⟩=>chain_link (thn (hb pins s1 σ H1 _ I1 q1) fun u s2 ⟨y,H2,I2,r2,q2⟩=>
  thn (ho pins s2 σ H2 x y v u _ I2 r1 r2 q2) fun d s3 ⟨z,H3,I3,r3,k,e,q3⟩=>?_)) hm
 subst e
 cases r3
 refine PH ?_
 cases k with
 | false=>exact ite_ff ⟨.bl false,H3,I3,rfl,q3⟩
 | true=>exact ite_tt (chain_last (thn (hc pins s3 σ H3 _ I3 q3) fun w' s4 ⟨z',H4,I4,r4,q4⟩=>ho' pins s4 σ H4 y z' u w' Q I4 r2 r4 q4))
def Cj {op op':CmpOp}{r r':R2} (ho:OpR X (compareOp op) r) (ho':OpR X (compareOp op') r') (ha:PE X a ta) (hb:PE X b tb) (hc:PE X c tc)
  (hm:lastMarks [op,op'] [b,c]=false:=by with_unfolding_all rfl):PT X (.Compare a [op,op'] [b,c] pos) (Ap (vV r r' ta tb tc)):=by
 intro pins s σ H Q I h
 refine isTrue_chain (thn (ha pins s σ H _ I h) fun v s1 ⟨x,H1,I1,r1,q1⟩=>test_link (thn (hb pins s1 σ H1 _ I1 q1) fun u s2 ⟨y,H2,I2,r2,q2⟩=>
  thn (ho pins s2 σ H2 x y v u _ I2 r1 r2 q2) fun d s3 ⟨z,H3,I3,r3,k,e,q3⟩=>?_)) hm
 subst e
 cases r3
 refine PH ?_
 cases k with
 | false=>
  obtain⟨k',e',q'⟩:=q3
  cases e'
  exact ite_ff ⟨H3,I3,q'⟩
 | true=>
  refine ite_tt (test_last (thn (hc pins s3 σ H3 _ I3 q3) fun w' s4 ⟨z',H4,I4,r4,q4⟩=>thn (ho' pins s4 σ H4 y z' u w' _ I4 r2 r4 q4) fun d' s5 ⟨z2,H5,I5,r5,k2,e2,q5⟩=>?_))
  subst e2
  cases r5
  exact PH ⟨H5,I5,q5⟩
def Fj (K:ND) (x:V) (H:Hp) (k:Bool):Prop:=
 match x with
 | .non=>k=false
 | .bl b=>k=b
 | .int i=>k=(i != 0)
 | .str y=>y.length<=sizeLine/\k=((y.length:Int) != 0)
 | .byt y=>y.size<=sizeLine/\k=((y.size:Int) != 0)
 | .ref p=>(∃xs,SqL K H p xs/\k = !xs.isEmpty)\/(∃xs,SqT K H p xs/\k = !xs.isEmpty)\/∃kvs,H p=some (.dK kvs)/\k = !kvs.isEmpty
 | _=>False
def we (r:KV kvs vs):(!vs.isEmpty) = !kvs.isEmpty:=by
 cases r<;>rfl
def nu (r:Vals xs its):(!its.toArray.isEmpty) = !xs.isEmpty:=by
 cases r<;>simp
def gS:(sizeLine:Nat)<2 ^ 63:=by rw[OY];decide
def GH:Me X (fun x H Q=>∃k,Fj X.K x H k/\Q k H):=by
 intro pins s σ H x v Q I rx h
 obtain⟨k,e,q⟩:=h
 have hl:=gS
 have hs:sizeLine=16777216:=OY
 cases x with
 | non=>
  cases rx
  have e':k=false:=e
  subst e'
  exact truthy_none ⟨H,I,q⟩
 | bl b=>
  cases rx
  have e':k=b:=e
  subst e'
  exact PH ⟨H,I,q⟩
 | int i=>
  obtain⟨t,rfl⟩:=rx
  have e':k=(i != 0):=e
  subst e'
  exact PySem.P.truthy_int ⟨H,I,q⟩
 | str y=>
  obtain⟨t,rfl⟩:=rx
  obtain⟨hy,e'⟩:y.length<=sizeLine/\k=((y.length:Int) != 0):=e
  subst e'
  exact PySem.P.truthy_str (by omega) ⟨H,I.tok _,q⟩
 | byt y=>
  obtain⟨t,rfl⟩:=rx
  obtain⟨hy,e'⟩:y.size<=sizeLine/\k=((y.size:Int) != 0):=e
  subst e'
  exact PySem.W.truthy_bytes (by omega) ⟨H,I.tok _,q⟩
 | ref p=>
  cases rx
  have e':(∃xs,SqL X.K H p xs/\k = !xs.isEmpty)\/(∃xs,SqT X.K H p xs/\k = !xs.isEmpty)\/∃kvs,H p=some (.dK kvs)/\k = !kvs.isEmpty:=e
  rcases e' with⟨xs,hx,e'⟩ | ⟨xs,hx,e'⟩ | ⟨kvs,hx,e'⟩
  ·subst e'
   obtain⟨its,r,pl,hz⟩:=I.list hx
   have hlen:=r.length
   exact wpAny_truthy_list pl.isList (by grind) ⟨H,I.tok _,by rw[nu r];exact q⟩
  ·subst e'
   obtain⟨its,r,pl,hz⟩:=I.tuple hx
   have hlen:=r.length
   exact truthy_tuple pl (by grind) ⟨H,I.tok _,by rw[nu r];exact q⟩
  ·subst e'
   obtain⟨hz,hS,vs,r,m⟩:kvs.length<=sizeLine/\(p == sysModules)=false/\∃vs,KV kvs vs/\s.heap.DictOf (bM X.prog X.w) p vs:=I.hok p _ hx
   have hlen:kvs.length=vs.length:=Paired.length r
   exact wpAny_truthy_dict hS m (by omega) ⟨H,I.tok _,by rw[we r];exact q⟩
 | _=>exact(show False from e).elim
def B4 (ha:PE X a ta) (he:∀whole,isTrue a X.env whole=(do let v ← whole;standAt a.pos;holding [v] (truthy v))) :
  PT X a (fun σ H Q=>ta σ H fun x H'=>∃k,Fj X.K x H' k/\Q k H'):=by
 intro pins s σ H Q I h
 exact isTrue_plain (thn (ha pins s σ H _ I h) fun v s1 ⟨x,H1,I1,r1,q1⟩=>GH pins s1 σ H1 x v Q I1 r1 q1) (he _)
def wY:OpR X (binaryOp .Add) (fun x y H Q=>∃i j,x=.str i/\y=.str j/\i.length+j.length<=sizeLine/\Q (.str (i++j)) H):=by
 intro pins s σ H x y v u Q I rx ry h
 obtain⟨i,j,rfl,rfl,hz,q⟩:=h
 obtain⟨t,rfl⟩:=rx
 obtain⟨t',rfl⟩:=ry
 exact add_str (fun t' tk=>⟨.str (i++j),H,I.tok _,⟨_,rfl⟩,q⟩) hz
def vals1 (r:Vals [x] us):∃u,us=[u]/\RelV x u:=by
 cases r with
 | cons r1 r2=>cases r2;simp_all
def vals2 (r:Vals [x,y] us):∃u w',us=[u,w']/\RelV x u/\RelV y w':=by
 cases r with
 | cons r1 r2=>
  cases r2 with
  | cons r3 r4=>cases r4;grind
def Ak (hc:X.calm=true):aV X (.builtin "max") (fun xs H Q=>∃i j,xs=[.int i,.int j]/\Q (.int (if j > i then j else i)) H):=by
 intro pins s σ H xs us Q I r h
 obtain⟨i,j,rfl,q⟩:=h
 obtain⟨u,w',rfl,⟨t,rfl⟩,⟨t',rfl⟩⟩:=vals2 r
 refine max_two_ints (I.ok.hd hc) fun h' tk k=>⟨_,H,I.kept k,?_,q⟩
 by_cases hj:j > i
 ·rw[if_pos hj,if_pos hj];exact⟨_,rfl⟩
 ·rw[if_neg hj,if_neg hj];exact⟨_,rfl⟩
def pK:aV X (.type "int") (fun xs H Q=>(∃i,xs=[.int i]/\Q (.int i) H)\/∃k,xs=[.bl k]/\Q (.int (if k then 1 else 0)) H):=by
 intro pins s σ H xs us Q I r h
 rcases h with⟨i,rfl,q⟩ | ⟨k,rfl,q⟩
 ·obtain⟨u,rfl,t,rfl⟩:=vals1 r
  exact call_int_int ⟨.int i,H,I,⟨_,rfl⟩,q⟩
 ·obtain⟨u,rfl,r1⟩:=vals1 r
  cases r1
  exact call_int_bool ⟨.int (if k then 1 else 0),H,I.tok _,⟨_,rfl⟩,q⟩
end
structure Ip (h:Heap) (x dx C) (mA):Prop where
 obj:h.get? x=some (SX C dx)
 ns:h.Ns1 dx mA
 ne:dx≠x
def z_ {h:Heap} (n:h.Ns1 dx mA):∃od,h.get? dx=some od/\∀name,Th name od=some (mA name):=by
 obtain⟨o,es,ep,ho,hd,hk,_,hm⟩:=n
 refine⟨o,ho,fun name=>?_⟩
 have e:=hm name
 unfold nsFind findBy at e
 rw[<- Array.find?_toList] at e
 unfold Th
 rw[hd]
 dsimp only
 split
 ·simp_all
 ·rename_i q
  rw[q] at e
  have a:es.toList.any (·.refKey)=false:=by
   rw[List.any_eq_false]
   intro y hy
   obtain⟨z,t,hkey⟩:=hk y (P9.mp hy)
   simp[Um.refKey,hkey]
  simp_all
def Ip.look {h:Heap}{x dx C:Addr}{mA:Str->Option NI} (I:Ip h x dx C mA):∃od,PySem.W.InstAt h x (SX C dx) C (some od)/\∀name,Th name od=some (mA name):=
 let ⟨od,ho,hl⟩:=z_ I.ns
 ⟨od,⟨I.obj,rfl,rfl,ho⟩,hl⟩
def ja.some_of (r:ja (some v) o):∃u,o=some u/\RelV v u:=by
 cases o with
 | none=>exact(show False from r).elim
 | some u=>exact⟨u,rfl,r⟩
section
variable {P:NT}{w:Oe}{H H':Hp}{h h':Heap}{a C dx:Addr}{fs fs':List (Str × V)}
def Dv (hok:HOk P w H h) (e:H a=some (.ins C dx fs)):∃mA,Ip h a dx C mA/\(∀f,ja (fs.lookup f) (mA f))/\RG mA (fs.map (·.1))/\fs.length<=1000/\H dx=some (.own a):=by
 obtain⟨d,z,ne,ob,mA,n,r,q⟩:=(show a_ P w H h a (.ins C dx fs) from hok a _ e)
 exact⟨mA,⟨ob,n,ne⟩,r,q,z,d⟩
end
structure Cls (K) (C):Prop where
 pg:PySem.W.plainGet K C Str.empty=true
 hd:PySem.W.hasDictIn K C=true
 po:PySem.W.plainOver K C=true
 sa:PySem.W.findIn K (.ref C) "__setattr__" = some (some (.builtin "object.__setattr__"))
def Cls.get {K:ND} (c:Cls K C) (f):PySem.W.plainGet K C f=true:=c.pg
section
variable {X:Cx}{pins:List (Addr × Obj)}{σ:St}{H:Hp}{s:NM}{a C dx:Addr}{fs:List (Str × V)}{f:Str}{v:V}{A:Oa}{E:NI->NM->Prop}
def Dt (hb:attributeBase e f env (eval e env)=eval e env)
  (h:wpAny (model prog w) A (eval e env) (fun o s₁=>wpAny (model prog w) A (getAttr o f true) Q E s₁) E s):wpAny (model prog w) A (eval (.Attribute e f pos) env) Q E s:=
 Attribute_any_ h (by rw[arm_eval_Attribute,hb])
end
section
variable {X:Cx}{pins:List (Addr × Obj)}{σ:St}{H:Hp}{s:NM}{A:Oa}{E:NI->NM->Prop}{Q:NI->NM->Prop}{c:NI}{b:Bool}
inductive iW (K) (H:Hp):V->NI->Prop where
 | non:iW K H .non (.type "NoneType")
 | bl (x):iW K H (.bl x) (.type "bool")
 | int (i):iW K H (.int i) (.type "int")
 | str (x):iW K H (.str x) (.type "str")
 | flt (x):iW K H (.flt x) (.type "float")
 | lst (e:H a=some (.lst xs)):iW K H (.ref a) (.type "list")
 | frz (e:H a=some (.frz o (.lst xs))):iW K H (.ref a) (.type "list")
 | tup (e:H a=some (.tup xs)):iW K H (.ref a) (.type "tuple")
 | eD (e:H a=some (.frz o (.dK kvs))):iW K H (.ref a) (.type "dict")
 | dK (e:H a=some (.dK kvs)):iW K H (.ref a) (.type "dict")
 | dT (e:H a=some (.dT kvs)):iW K H (.ref a) (.type "dict")
 | ins (e:H a=some (.ins C dx fs)) (cl:Cls K C) (ha:PySem.W.findIn K (.ref C) "__class__" = some (some (.builtin "object.__class__")))
   (hn:PySem.W.specialIn K (.builtin "object.__class__") "__get__" = some (some (.builtin "getset_descriptor.__get__"))) (htk:PySem.W.takesIn K (.builtin "object.__class__")=some true)
   (hm:PySem.W.mroIn K C (.type "object")=some true):iW K H (.ref a) (.ref C)
def zg {x:V}{u t:NI} (I:Inv X pins σ H s) (rx:RelV x u) (ty:iW X.K H x t) (e:Pd X.K t c=some b) (h:∀tk,Q (.bool b) { s with toks:=tk }) :
  wpAny (model X.prog X.w) A (call (.builtin "isinstance") [u,c]) Q E s:=by
 cases ty with
 | non=>cases (show u=OS from rx);exact OL PySem.W.kitx_none I.kIn P1 e (fun z=>nomatch z) h
 | bl y=>cases (show u=RY y from rx);exact OL PySem.W.kitx_bool I.kIn P1 e (fun z=>nomatch z) h
 | int i=>obtain⟨t,q⟩:=(show ∃t,u=Qw i t from rx);cases q;exact OL PySem.W.kitx_int I.kIn P1 e (fun z=>nomatch z) h
 | str y=>obtain⟨t,q⟩:=(show ∃t,u=Tx y t from rx);cases q;exact OL PySem.W.kitx_str I.kIn P1 e (fun z=>nomatch z) h
 | flt y=>obtain⟨t,q⟩:=(show ∃t,u=NI.float y t from rx);cases q;exact OL PySem.W.kitx_float I.kIn P1 e (fun z=>nomatch z) h
 | @lst a xs ea=>
  cases (show u=Ob a from rx)
  obtain⟨_,_,n,_,h1⟩:=(show a_ X.prog X.w H s.heap a (.lst xs) from I.hok a _ ea)
  exact OL PySem.W.kitx_list I.kIn ⟨_,h1,rfl⟩ e (fun z=>nomatch z) h
 | @frz a ob xs ea=>
  cases (show u=Ob a from rx)
  obtain⟨_,_,_,n,_,h1⟩:=(show a_ X.prog X.w H s.heap a (.frz ob (.lst xs)) from I.hok a _ ea)
  exact OL PySem.W.kitx_list I.kIn ⟨_,h1,rfl⟩ e (fun z=>nomatch z) h
 | @tup a xs ea=>
  cases (show u=Ob a from rx)
  obtain⟨_,_,_,p⟩:=(show a_ X.prog X.w H s.heap a (.tup xs) from I.hok a _ ea)
  obtain⟨o,h1,⟨h2,_⟩,_⟩:=p
  exact OL PySem.W.kitx_tuple I.kIn ⟨o,h1,h2⟩ e (fun z=>nomatch z) h
 | @eD a ob kvs ea=>
  cases (show u=Ob a from rx)
  obtain⟨_,_,_,vs,_,p⟩:=(show a_ X.prog X.w H s.heap a (.frz ob (.dK kvs)) from I.hok a _ ea)
  obtain⟨o,es,ep,h1,h2,_⟩:=p
  exact OL Sn I.kIn ⟨o,h1,h2.1⟩ e (fun z=>nomatch z) h
 | @dK a kvs ea=>
  cases (show u=Ob a from rx)
  obtain⟨_,_,vs,_,p⟩:=(show a_ X.prog X.w H s.heap a (.dK kvs) from I.hok a _ ea)
  obtain⟨o,es,ep,h1,h2,_⟩:=p
  exact OL Sn I.kIn ⟨o,h1,h2.1⟩ e (fun z=>nomatch z) h
 | @dT a kvs ea=>
  cases (show u=Ob a from rx)
  obtain⟨_,_,xs,_,o,es,ep,h1,h2,_⟩:=(show a_ X.prog X.w H s.heap a (.dT kvs) from I.hok a _ ea)
  exact OL Sn I.kIn ⟨o,h1,h2.1⟩ e (fun z=>nomatch z) h
 | @ins a C dx fs ea cl ha hn htk hm=>
  cases (show u=Ob a from rx)
  obtain⟨mA,O,_⟩:=Dv I.hok ea
  obtain⟨od,J,_⟩:=O.look
  exact OL (PySem.W.kitx_own (cl.get _) cl.hd ha hn htk hm) I.kIn J e (fun z=>nomatch z) h
end
structure bG (k) (A:Oa):Prop where
 hd:A.handled=none
 dp:A.depth+3*k+5<recursionLimit
 un:A.units+16*k+200<cLine
 gd:A.guards=some []
def bG.mono (r:bG k A) (h:j<=k):bG j A:=⟨r.hd,by have:=r.dp;omega,by have:=r.un;omega,r.gd⟩
theorem bG.deeper (r:bG (k+1) A) (env):bG k (A.deeper env):=
 ⟨r.hd,by have:=r.dp;show A.depth+1+3*k+5<_;omega,by have:=r.un;show A.units+3+16*k+200<_;omega,r.gd⟩
def vD {A:Oa}:(A.under (.builtin "type.__call__" ⟨.ref C::us,kw⟩)).depth=A.depth+1:=by
 rfl
def vA {A:Oa}:(A.under (.builtin "type.__call__" ⟨.ref C::us,kw⟩)).units=A.units+1:=by
 rfl
def bG.make (r:bG (k+1) A) (C) (us) (kw):bG k (A.under (.builtin "type.__call__" ⟨.ref C::us,kw⟩)):=
 ⟨r.hd,by have:=r.dp;rw[vD];omega,by have:=r.un;rw[vA];omega,by first | exact r.gd | (simpa [Oa.under,Code.envs,Code.isFrame,Code.isGuard,guardIds] using r.gd)⟩
theorem bG.depth (r:bG k A):A.depth<recursionLimit:=by have:=r.dp;omega
theorem bG.units (r:bG k A):A.units+64<cLine:=by have:=r.un;omega
noncomputable def Jp:TA:=fun _ H Q=>Q [] H
noncomputable def FZ (ta:TE) (tr:TA):TA:=fun σ H Q=>ta σ H fun x H1=>tr σ H1 fun xs H2=>Q (x::xs) H2
section
variable {X:Cx}{e:Expr}{es:List Expr}{te:TE}{t:TA}{pos:Pos}
def gF:PA X [] Jp:=fun _ _ _ _ H Q I h=>So ⟨[],H,I,.nil,h⟩
def c4 (ha:PE X e te) (hr:PA X es t) (hs:starEach (e::es) X.env=(false,eval e X.env)::starEach es X.env:=by rfl):PA X (e::es) (FZ te t):=by
 intro pos pins s σ H Q I h
 rw[hs]
 show wpAny _ _ (spliced ((false,eval e X.env)::backTo pos (starEach es X.env))) _ _ s
 refine Qs (thn (ha pins s σ H _ I h) fun u s1 ⟨x,H1,I1,r1,q1⟩=>?_)
 exact thn (hr pos pins s1 σ H1 _ I1 q1) fun us s2 ⟨xs,H2,I2,r2,q2⟩=>⟨x::xs,H2,I2,.cons r1 r2,q2⟩
noncomputable def Mn (t:TA):TE:=fun σ H Q=>t σ H fun xs H1=>xs.length<=sizeLine/\∀p,H1 p=none->Q (.ref p) (upd H1 p (.tup xs))
noncomputable def LJ (t:TA):TE:=fun σ H Q=>t σ H fun xs H1=>xs.length<=sizeLine/\∀p,H1 p=none->Q (.ref p) (upd H1 p (.lst xs))
def HF {x1} (h:PA X es t):PE X (.Tuple es x1 pos) (Mn t):=by
 intro pins s σ H Q I hq
 refine wpAny_Tuple_spliced (thn (h pos pins s σ H _ I hq) fun us s1 ⟨xs,H1,I1,r,z,q⟩=>⟨by rw[<- r.length];exact z,?_⟩)
 have hf:H1 s1.heap.objs.size=none:=I1.hok.fresh (NK _)
 refine⟨.ref s1.heap.objs.size,upd H1 s1.heap.objs.size (.tup xs),I1.laid (t':=s1.toks) (fun b u e=>NF _ e) (NK _) ?_,rfl,q _ hf⟩
 exact⟨z,us,r,⟨_,NN _ rfl,⟨rfl,_,rfl⟩,rfl⟩⟩
def HD (h:PA X es t):PE X (.List es pos) (LJ t):=by
 intro pins s σ H Q I hq
 refine wpAny_List_spliced (thn (h pos pins s σ H _ I hq) fun us s1 ⟨xs,H1,I1,r,z,q⟩=>⟨by rw[<- r.length];exact z,?_⟩)
 have hf:H1 s1.heap.objs.size=none:=I1.hok.fresh (NK _)
 refine⟨.ref s1.heap.objs.size,upd H1 s1.heap.objs.size (.lst xs),I1.laid (t':=s1.toks) (fun b u e=>NF _ e) (NK _) ?_,rfl,q _ hf⟩
 exact⟨z,us,0,r,NN _ rfl⟩
end
noncomputable abbrev Sp:=List V->Hp->VK->XK->Prop
noncomputable abbrev CXT:=List Env->Hp->NM->XK->NI->NM->Prop
structure vE (P) (w) (K) (mg) (base) (A:Oa) (outer) (s:NM) (H:Hp):Prop where
 frames:A.frames=some outer
 mod:Mod K mg base
 bs:∀b o,base.get? b=some o->s.heap.get? b=some o/\H b=none
 bsz:base.objs.size<=s.heap.objs.size
 g_:s.heap.FunFrames base outer
 frf:∀b∈frs outer,H b=none
 hok:HOk P w H s.heap
 bare:SE s.gens
def CE (outer:List Env) (P:NT) (w:Oe) (H:Hp) (s:NM) (Q:VK) (u:NI) (s':NM):Prop:=
 ∃v H',s'.os=s.os/\SE s'.gens/\Un (frs outer) [] H H' s.heap s'.heap/\HOk P w H' s'.heap/\RelV v u/\Q v H'
def CR (CX:CXT) (outer:List Env) (P:NT) (w:Oe) (H:Hp) (s:NM) (Q:VK) (E:XK) (r:Result) (s':NM):Prop:=
 match r with
 | .ok (.ret u)=>CE outer P w H s Q u s'
 | .ok _=>False
 | .error e=>CX outer H s E e s'
structure b9 (P) (w) (K) (mg) (base) (CX) (k) (f) (fd) (ps:List Str) (sp:Sp):Prop where
 len:∀vs H Q E,sp vs H Q E->vs.length=ps.length
 run:∀A outer s H args us vs Q E , bG k A->vE P w K mg base A outer s H->TR s fd args (ps.zip us)->Vals vs us->sp vs H Q E →
  codeAny (model P w) A (.call (.ref f) args) (CR CX outer P w H s Q E) s
theorem b9.mono {K:ND} (F:b9 P w K mg base CX j f fd ps sp) (h:j<=k) :
  b9 P w K mg base CX k f fd ps sp:=⟨F.len,fun A outer s H args us vs Q E hr=>F.run A outer s H args us vs Q E (hr.mono h)⟩
def b9.imp {K:ND} (F:b9 P w K mg base CX k f fd ps sp)
  (h:∀vs H Q E,sp' vs H Q E->sp vs H Q E):b9 P w K mg base CX k f fd ps sp':=
 ⟨fun vs H Q E q=>F.len vs H Q E (h _ _ _ _ q),fun A outer s H args us vs Q E hr he hb hv hs=>F.run A outer s H args us vs Q E hr he hb hv (h _ _ _ _ hs)⟩
section
variable {X:Cx}{pins:List (Addr × Obj)}{σ:St}{H:Hp}{s s':NM}
def Inv.Ig (I:Inv X pins σ H s):vE X.prog X.w X.K X.mg X.base X.A X.stack s H:=
 ⟨I.ok.frames,I.ok.mod,I.bs,N4 I.ok.bsz I.sz,I.stack,I.jz,I.hok,I.bare⟩
def Inv.after (I:Inv X pins σ H s) (h:CE X.stack X.prog X.w H s Q u s'):EP X pins σ Q u s':=by
 obtain⟨v,H',os,bare,un,hok,r,q⟩:=h
 obtain⟨hh,g,d,t,os'⟩:=s'
 obtain rfl:os'=s.os:=os
 exact⟨v,H',I.call (h':=hh) (g':=g) (d':=d) (t':=t) (ch:=[]) un hok bare (fun b z=>absurd z (by simp)),r,q⟩
end
noncomputable def Gf (sp:Sp) (dvs:List V) (E:XK) (t:TA):TE:=fun σ H Q=>t σ H fun vs H1=>sp (vs++dvs) H1 Q E
def Binds (K:ND) (fd:P_) (ps:List Str) (ds:List NI):Prop:=
 ∀s us , K.In s.heap->(us++ds).length=ps.length->TR s fd ⟨us,[]⟩ (ps.zip (us++ds))
def Binds.all {K:ND} (h:∀us:List NI,us.length=ps.length->bindArgs fd ⟨us,[]⟩=pure (ps.zip us)):Binds K fd ps []:=fun s us _ hl=>by
 rw[O2] at hl ⊢
 exact .of_eq (h us hl)
def Passes (CX:CXT) (X:Cx) (E:XK):Prop:=∀pins (σ:St) H s e s' , Inv X pins σ H s->CX X.stack H s E e s'->X.xe e s'
section
variable {X:Cx}{CX:CXT}{k:Nat}{f C:Addr}{fd:P_}{ps:List Str}{sp:Sp}{dvs:List V}{ds:List NI}{E:XK}{x m:Str}{p pos apos:Pos}{e o:Expr}{es:List Expr}{ta:TE}{t:TA}
def Io {σ:St} (F:b9 X.prog X.w X.K X.mg X.base CX k f fd ps sp) (hr:bG k X.A) (hb:Binds X.K fd ps ds) (hd:Vals dvs ds) (hx:Passes CX X E)
  (I:Inv X pins σ H s) (r:Vals vs us) (h:sp (vs++dvs) H Q E):wpAny (model X.prog X.w) X.A (call (.ref f) us) (EP X pins σ Q) X.xe s:=by
 have r2:Vals (vs++dvs) (us++ds):=r.append hd
 have hl:(us++ds).length=ps.length:=by rw[<- r2.length];exact F.len _ _ _ _ h
 refine QF (PF (F.run X.A X.stack s H ⟨us,[]⟩ (us++ds) (vs++dvs) Q E hr I.Ig (hb s us I.kIn hl) r2 h) fun r s' hq=>?_)
 cases r with
 | error e=>exact hx pins σ H s e s' I hq
 | ok fl=>
  cases fl with
  | ret u=>exact I.after hq
  | next=>assumption
  | brk=>assumption
  | cont=>assumption
def xA (F:b9 X.prog X.w X.K X.mg X.base CX k f fd ps sp) (hr:bG k X.A) (hg:Gl X x) (hm:X.mg x=some (.ref f)) (hk:Om X.K (.ref f)=true) (hb:Binds X.K fd ps ds) (hd:Vals dvs ds) (hx:Passes CX X E)
  (ha:PA X (e::es) t) (hdb:(x == ("__debug__" : Str))=false:=by decide) (he:starEach (e::es) X.env=(false,eval e X.env)::starEach es X.env:=by rfl) (hpl:(backTo pos (starEach es X.env)).any (·.1)=false:=by rfl) :
  PE X (.Call (.Name x p) (e::es) [] pos) (Gf sp dvs E t):=by
 intro pins s σ H Q I h
 refine Qt (fT I hg hm ?_ hdb)
 refine Ra (h₀:=X.base) I.ok.mod.kin hk (thn (ha pos pins s σ H _ I h) fun us s1 ⟨vs,H1,I1,r,q⟩=>⟨I1.kIn,?_⟩) he hpl
 exact Io F hr hb hd hx I1 r q
end
structure az (N P:List Str) (sc:R0):Prop where
 kind:sc.kind=.function
 co:sc.isCoroutine=false
 gen:sc.isGenerator=false
 nd:N.Nodup
 pre:N.take P.length=P
 par:∀x∈P,sc.names.lookup x=some .local\/sc.names.lookup x=some .cell
 GK:∀y∈sc.names,y.2≠.free
theorem pJ {kindOf:Str->Option PQ}{x:Str}:∀{binds:List (Str × NI)}{m:Str->Option NI},(∀v,(x,v)∉binds)->bindL kindOf binds m x=m x
 | [],_,_=>rfl
 | (n,v)::r,m,h=>by
  unfold bindL
  rw[pJ fun w hw=>h w (NH _ hw)]
  split
  ·grind
  ·rfl
theorem pG {kindOf:Str->Option PQ}:∀{binds:List (Str × NI)}{m:Str->Option NI},(∀v,(x,v)∉binds)->bindC kindOf binds m x=m x
 | [],_,_=>rfl
 | (n,v)::r,m,h=>by
  unfold bindC
  rw[pG fun w hw=>h w (NH _ hw)]
  split
  ·rfl
  grind
theorem h_ {kindOf:Str->Option PQ}{x:Str}{v:NI}:∀{P:List Str}{vs:List NI}{i:Nat}{m:Str->Option NI},P.Nodup->P[i]?=some x->vs[i]?=some v->kindOf x=some .local →
  bindL kindOf (P.zip vs) m x=some v
 | [],_,_,_,_,h,_,_=>by simp at h
 | _::_,[],_,_,_,_,h,_=>by simp at h
 | p::P,w::vs,0,m,nd,h1,h2,hk=>by
  simp at h1 h2;subst h1;subst h2
  show bindL kindOf ((p,w)::P.zip vs) m p=_
  unfold bindL
  rw[pJ fun v hv=>(Ox.mp nd).1 (Qx hv).1,if_pos hk]
  simp
 | p::P,w::vs,i+1,m,nd,h1,h2,hk=>by
  show bindL kindOf ((p,w)::P.zip vs) m x=_
  unfold bindL
  exact h_ (i:=i) (Ox.mp nd).2 (by simp_all) (by simp_all) hk
theorem p_ {kindOf:Str->Option PQ}{x:Str}{v:NI}:∀{P:List Str}{vs:List NI}{i:Nat}{m:Str->Option NI},P.Nodup->P[i]?=some x->vs[i]?=some v->kindOf x≠some .local →
  bindC kindOf (P.zip vs) m x=some v
 | [],_,_,_,_,h,_,_=>by simp at h
 | _::_,[],_,_,_,_,h,_=>by simp at h
 | p::P,w::vs,0,m,nd,h1,h2,hk=>by
  simp at h1 h2;subst h1;subst h2
  show bindC kindOf ((p,w)::P.zip vs) m p=_
  unfold bindC
  rw[pG fun v hv=>(Ox.mp nd).1 (Qx hv).1,if_neg hk]
  simp
 | p::P,w::vs,i+1,m,nd,h1,h2,hk=>by
  show bindC kindOf ((p,w)::P.zip vs) m x=_
  unfold bindC
  exact p_ (i:=i) (Ox.mp nd).2 (by simp_all) (by simp_all) hk
noncomputable def start (N:List Str) (vs:List V):St:=vs.map some++N1 (N.length - vs.length) none
noncomputable def dW (CX:CXT) (P:NT) (w:Oe) (K:ND) (mg:Str->Option NI) (base:Heap) (N:List Str) (qual:Str) (scope:R0) (f:Addr) (cd:NI) (A:Oa) (outer:List Env) (s:NM) (H:Hp) (E:XK):Cx where
 prog:=P
 w:=w
 K:=K
 mg:=mg
 base:=base
 A:=A.deeper (envOfC qual scope s.heap.objs.size f cd)
 N:=N
 ax:=s
 aD:=H
 env:=envOfC qual scope s.heap.objs.size f cd
 outer:=outer
 stack:=envOfC qual scope s.heap.objs.size f cd::outer
 ex:=[]
 calm:=true
 fn:=fun _=>true
 pn:=[]
 xe:=fun e s'=>wpAny (model P w) (A.deeper (envOfC qual scope s.heap.objs.size f cd)) (leaving (envOfC qual scope s.heap.objs.size f cd) e) (fun _ s''=>CX outer H s E e s'') (fun e' s''=>CX outer H s E e' s'') s'
def tZ {sc:R0} (h:sc.names.lookup x=some .cell):∃c,(cellsFrom n sc.names []).lookup x=some c:=by
 have q:=PR sc.names n [] (.inl h)
 exact Qd.mp q
def ko {K:ND}
  (S:az N ps scope) (hd:A.handled=none) (e0:vE P w K mg base A outer s H) (hl:vs.length=ps.length) (r:Vals vs us)
  (x:InCallC s s.heap.objs.size (bindL (envOfC qual scope s.heap.objs.size f cd).kindOf (ps.zip us) fun _=>none) (cellsFrom (s.heap.objs.size+1) scope.names []) (bindC (envOfC qual scope s.heap.objs.size f cd).kindOf (ps.zip us) fun _=>none) s1) :
  Inv (dW CX P w K mg base N qual scope f cd A outer s H E) [] (start N vs) H s1:=by
 have hpl:ps.length<=N.length:=by have:=congrArg List.length S.pre;grind
 obtain⟨h1,tk,rfl,hk⟩:=x.done
 have noA:∀b:Addr,b∉(dW CX P w K mg base N qual scope f cd A outer s H E).ex:=fun b z=>absurd (show b∈([]:List Addr) from z) (by simp)
 refine⟨⟨e0.mod,S.kind,rfl,rfl,NK _,fun y z c h1 h2=>?_,fun y hy=>?_,fun y c _ h=>?_,fun _=>hd,RR e0.frames,.inr ⟨rfl,rfl⟩,fun b z=>absurd z (noA b),e0.bs,e0.bsz,fun b _ _=>noA b,fun b z=>absurd z (noA b),e0.g_,e0.frf⟩,
  rfl,e0.bare,Un.kept hk,⟨_,x.toInCall.ns,fun i y v h1 h2 h3=>?_⟩,fun y c h=>⟨_,x.cell y c h⟩,e0.hok.fresh (NK _),fun y c h=>?_,fun p hp=>absurd (show p∈([]:List (Addr × Obj)) from hp) (by simp),e0.hok.kept hk,?_⟩
 ·exact name_of_addr x.apart (Qj h1) (Qj h2)
 ·have hy:scope.names.lookup y=some .cell\/scope.names.lookup y=some .free:=hy
  rcases hy with hy | hy
  ·exact tZ hy
  ·exact absurd rfl (S.GK _ (Qj hy))
 ·exact RH (x.above y c (Qj h))
 ·have hi:i<vs.length:=by
   unfold start at h2
   grind
  have ha:vs[i]?=some v:=by
   unfold start at h2
   grind
  obtain⟨u,hu,rv⟩:=r.get ha
  have hp:ps[i]?=some y:=by
   rw[<- S.pre,List.getElem?_take_of_lt (by omega)];exact h1
  have ndP:ps.Nodup:=by rw[<- S.pre];exact S.nd.sublist (List.take_sublist _ _)
  refine⟨u,rv,?_⟩
  rcases S.par y (Oc hp) with k | k
  ·exact .inl ⟨k,h_ ndP hp hu k⟩
  ·obtain⟨c,e⟩:=tZ (n:=s.heap.objs.size+1) k
   refine .inr ⟨.inl k,c,e,?_⟩
   have q:=x.cell y c e
   rw[p_ ndP hp hu (by show scope.names.lookup y≠_;simp_all)] at q
   exact q
 ·exact e0.hok.fresh (RH (x.above y c (Qj h)))
 ·unfold start
  show _=N.length
  simp_all
def Gg {CX:CXT}{P:NT}{w:Oe}{K:ND}{mg:Str->Option NI}{base:Heap}{k:Nat}{f:Addr}{name qual:Str}{params:Tz}{body:List Stmt}{scope:R0}{dV kV doc pm cdv ct oc:NI}{an od:Option Addr}
  {osl:Array (Option NI)} {N ps:List Str} {sp:Sp} (lk:K.lookup f=some ⟨oc,od,.func (OP name qual params body scope dV kV doc pm an cdv ct),osl⟩) (hcd:QP K cdv qual=true) (S:az N ps scope)
  (len:∀vs H Q E,sp vs H Q E->vs.length=ps.length)
  (hbody:∀(A:Oa) (outer:List Env) (s:NM) (H:Hp) (vs:List V) (Q:VK) (E:XK),bG k (A.deeper (envOfC qual scope s.heap.objs.size f cdv))->sp vs H Q E →
   ∃t,PSs (dW CX P w K mg base N qual scope f cdv A outer s H E) body t/\t { nx:=fun _ H'=>Q .non H',rt:=Q } (start N vs) H) :
  b9 P w K mg base CX (k+1) f (OP name qual params body scope dV kV doc pm an cdv ct) ps sp:=by
 refine⟨len,fun A outer s H args us vs Q E hr e0 hb r hsp=>?_⟩
 have hl:=len _ _ _ _ hsp
 have KX:K.In s.heap:=e0.mod.kin.keeps fun b o e=>(e0.bs b o e).1
 have lim:s.heap.NoLimit:=e0.mod.nolimit.keeps fun b o e=>(e0.bs b o e).1
 have hkind:∀y∈ps.zip us,scope.names.lookup y.1=some .local\/(scope.names.lookup y.1=some .cell/\((cellsFrom (s.heap.objs.size+1) scope.names []).lookup y.1).isSome=true):=fun⟨n,v⟩ hy=>by
  rcases S.par n (Qx hy).1 with q | q
  ·grind
  ·exact .inr ⟨q,PR _ _ _ (.inl q)⟩
 refine Qy hr.depth (KX _ _ lk) rfl S.co S.gen rfl (Sa KX hcd) (hb _ _ _ _ ?_)
 refine PX S.kind hkind fun env he s1 x=>?_
 subst he
 refine⟨lim.keeps x.toInCall.keep,SY ?_⟩
 obtain⟨t,ht,hq⟩:=hbody A outer s H vs Q E (hr.deeper _) hsp
 have I:Inv (dW CX P w K mg base N qual scope f cdv A outer s H E) [] (start N vs) H s1:=ko S hr.hd e0 hl r x
 refine N6 (ht [] s1 (start N vs) H _ I hq) (fun fl s' hs=>?_) fun e s' hs=>hs
 have fin:∀{σ':St} {H':Hp} {v:V} {u:NI},Inv (dW CX P w K mg base N qual scope f cdv A outer s H E) [] σ' H' s'->RelV v u->Q v H'->CE outer P w H s Q u s':=
  fun{σ' H' v u} J rv q=>⟨v,H',J.os,J.bare,J.base,J.hok,rv,q⟩
 cases fl with
 | ret u=>
  obtain⟨v,σ',H',J,rv,q⟩:=hs
  exact fin J rv q
 | next=>
  obtain⟨σ',H',J,q⟩:=hs
  exact fin (v:=V.non) (u:=OS) J rfl q
 | brk=>
  obtain⟨_,_,_,q⟩:=hs
  simp_all
 | cont=>
  obtain⟨_,_,_,q⟩:=hs
  simp_all
section
variable {X:Cx}{x:Str}{p pos:Pos}{e:Expr}{es:List Expr}{t:TA}{id T:String}{r:List V->Hp->VK->Prop}
noncomputable def tCB (r:List V->Hp->VK->Prop) (t:TA):TE:=fun σ H Q=>t σ H fun vs H1=>r vs H1 Q
def gG (hc:aV X (.builtin id) r) (hg:Gl X x) (hm:X.mg x=none) (hv:bootBuiltins x=some (.builtin id)) (ha:PA X (e::es) t) (hn:x≠"__name__" := by decide) (hdb:(x == ("__debug__" : Str))=false:=by decide)
  (he:starEach (e::es) X.env=(false,eval e X.env)::starEach es X.env:=by rfl) (hpl:(backTo pos (starEach es X.env)).any (·.1)=false:=by rfl):PE X (.Call (.Name x p) (e::es) [] pos) (tCB r t):=by
 intro pins s σ H Q I h
 refine Qt (jY I hg hm hv ?_ hn hdb)
 exact PyProof.Rows.callWith_builtin1 (thn (ha pos pins s σ H _ I h) fun us s1 ⟨vs,H1,I1,r1,q1⟩=>hc pins s1 σ H1 vs us Q I1 r1 q1) he hpl
def ik (hc:aV X (.type T) r) (hg:Gl X x) (hm:X.mg x=none) (hv:bootBuiltins x=some (.type T)) (ha:PA X (e::es) t) (hn:x≠"__name__" := by decide) (hdb:(x == ("__debug__" : Str))=false:=by decide)
  (he:starEach (e::es) X.env=(false,eval e X.env)::starEach es X.env:=by rfl) (hpl:(backTo pos (starEach es X.env)).any (·.1)=false:=by rfl):PE X (.Call (.Name x p) (e::es) [] pos) (tCB r t):=by
 intro pins s σ H Q I h
 refine Qt (jY I hg hm hv ?_ hn hdb)
 exact PL (thn (ha pos pins s σ H _ I h) fun us s1 ⟨vs,H1,I1,r1,q1⟩=>hc pins s1 σ H1 vs us Q I1 r1 q1) he hpl
end
end L2
namespace HT
open PySem PyProof.Rows
section
variable {prog:NT}{w:Oe}{A:Oa}{E:NI->NM->Prop}{s:NM}
def D2 (ht:IsTup s.heap t vs.toArray) (hb:IsTup s.heap b ws.toArray) (hv:vs≠[])
  (h1:ws=[]->Q (.ref t) s) (h2:ws≠[]->Q (.ref s.heap.objs.size) { s with heap:=s.heap.push { cls:=.type "tuple", data:=.seq (vs++ws).toArray } })
  (hsz:vs.length+ws.length<=sizeLine):wpAny (model prog w) A (binaryOp .Add (.ref t) (.ref b)) Q E s:=by
 obtain⟨⟨cls,dd,data,sl⟩,ho,hc,n,hd⟩:=id ht
 obtain⟨⟨cls2,dd2,data2,sl2⟩,ho2,hc2,n2,hd2⟩:=id hb
 simp only at hc hd hc2 hd2
 subst hc hd hc2 hd2
 have e:vs.toArray++ws.toArray=(vs++ws).toArray:=by simp
 by_cases hw:ws=[]
 ·exact TV ⟨_,ho,rfl⟩ ⟨_,ho2,rfl⟩ SQ TB Rq Rb (QY _ _)
   (tuple_addW1 t b vs.toArray ws.toArray n n2 dd dd2 sl sl2 (by simp_all) (by simp[hw])) ⟨ho,ho2,h1 hw⟩
 ·refine TV ⟨_,ho,rfl⟩ ⟨_,ho2,rfl⟩ SQ TB Rq Rb (QY _ _)
   (tuple_addW2 t b vs.toArray ws.toArray n n2 dd dd2 sl sl2 (by simp_all) (by simp_all) (by omega)) ⟨ho,ho2,?_⟩
  simp_all
noncomputable def sIx (n d:Nat):Option Int->Nat
 | none=>d
 | some v=>if v<0 then (v+(n:Int)).toNat else min v.toNat n
def Hv (n d) (hd:d<=n) (o):sIx n d o<=n:=by
 cases o with
 | none=>exact hd
 | some v=>
  show(if v<0 then (v+(n:Int)).toNat else min v.toNat n)<=n
  grind
def xO (v) (n d:Nat):(if v<0 then max (v+(n:Int)) 0 else min v (n:Int))=((sIx n d (some v):Nat):Int):=by
 show(if v<0 then max (v+(n:Int)) 0 else min v (n:Int))=(((if v<0 then (v+(n:Int)).toNat else min v.toNat n):Nat):Int)
 grind
def wc (lo hi) (n:Nat):QQ lo hi 1 (n:Int)=(((sIx n 0 lo:Nat):Int),((sIx n n hi:Nat):Int)):=by
 have h1:¬ ((1:Int)<0):=by omega
 unfold QQ
 simp only[h1,if_false]
 refine Prod.ext ?_ ?_
 ·cases lo with
  | none=>rfl
  | some v=>exact xO v n 0
 ·cases hi with
  | none=>rfl
  | some v=>exact xO v n n
def vt (i j:Nat):P6 (i:Int) (j:Int) 1=j - i:=by
 unfold P6
 omega
def m7 (p:TF v o) (h:Q o s):wpAny (model prog w) A (Ow.Slice.slicePartIndex v) Q E s:=by
 cases p with
 | none=>exact slicePart_none h
 | int i t=>exact slicePart_int h
def fG {sl:Addr}{vl vu:NI}{lo hi:Option Int}{n:Nat}{Q:Int × Int × Nat->NM->Prop} (hs:s.heap.IsSliceOf sl vl vu .none) (pl:TF vl lo) (pu:TF vu hi)
  (h:Q (((sIx n 0 lo:Nat):Int),1,sIx n n hi - sIx n 0 lo) s):wpAny (model prog w) A (Ow.Slice.sliceApplied (.ref sl) (pure (n:Int))) Q E s:=by
 obtain⟨os,hos,hcs,hds⟩:=id hs
 unfold Ow.Slice.sliceApplied Ow.Slice.sliceFields
 refine gV (gV (P7 hos hds (x:=vl) rfl (gV (P7 hos hds (x:=vu) rfl (gV (P7 hos hds (x:=.none) rfl (NG ?_)))))))
 refine gV (slicePart_none ?_)
 show wpAny _ _ (if ((1:Int) == 0)=true then _ else _) _ _ s
 rw[if_neg (by decide)]
 refine gV (m7 pl (gV (m7 pu (gV (NG ?_)))))
 show wpAny _ _ (match QQ lo hi 1 (n:Int) with | (lo,hi)=>pure (lo,(1:Int),P6 lo hi 1)) _ _ s
 rw[wc lo hi n]
 show wpAny _ _ (pure (((sIx n 0 lo:Nat):Int),(1:Int),P6 ((sIx n 0 lo:Nat):Int) ((sIx n n hi:Nat):Int) 1)) _ _ s
 rw[vt]
 exact NG h
def A2 (xs:Array NI) (i k:Nat):((NQ k).filterMap fun(m:Nat)=>xs[((i:Int)+(m:Int)*1).toNat]?).toArray=((xs.toList.drop i).take k).toArray:=by
 have e:(fun(m:Nat)=>xs[((i:Int)+(m:Int)*1).toNat]?)=fun m=>xs[i+m]?:=by
  grind
 rw[e]
 have:=pick_run xs i k
 rw[List.filterMap_map] at this
 have e2:((fun x=>xs[x]?) ∘ fun x=>i+x)=fun m=>xs[i+m]?:=rfl
 simp_all
def jN {lo hi:Option Int} (ht:IsTup s.heap t items) (hs:s.heap.IsSliceOf sl vl vu .none) (pl:TF vl lo) (pu:TF vu hi)
  (hw:¬ (sIx items.size 0 lo=0/\sIx items.size items.size hi=items.size))
  (h:Q (.ref s.heap.objs.size) { s with heap:=s.heap.push { cls:=.type "tuple", data:=.seq ((items.toList.drop (sIx items.size 0 lo)).take (sIx items.size items.size hi - sIx items.size 0 lo)).toArray } })
  (hsz:items.size<=sizeLine):wpAny (model prog w) A (getItem (.ref t) (.ref sl)) Q E s:=by
 have htake:sizeOk (.seq ((items.toList.drop (sIx items.size 0 lo)).take (sIx items.size items.size hi - sIx items.size 0 lo)).toArray):=by
  show((items.toList.drop (sIx items.size 0 lo)).take (sIx items.size items.size hi - sIx items.size 0 lo)).toArray.size<=sizeLine
  grind
 have hj:sIx items.size items.size hi<=items.size:=Hv _ _ (NK _) hi
 obtain⟨os,hos,hcs,hds⟩:=id hs
 have hTs:s.TypeIs (.ref sl) "slice" := ⟨os,hos,hcs⟩
 unfold getItem
 try with_reducible refine N9 ?_
 first | refine gV (NG ?_) | skip
 refine gV (wpAny_sequenceKey ht.typeIs (by decide) ?_)
 refine gV (OH (name:=Str.ofString "__getitem__") ht.typeIs OB
  (OA OB ht.typeIs entry_tuple_getitem ?_ (args_tuple_getitem _ _)))
 show wpAny _ _ (Ow.Tuple.tupleItemsOf (.ref t) >>= _) _ _ s
 refine gV (tupleItemsOf_ ht ?_)
 refine gV (QZ hTs ?_)
 rw[if_pos (by decide)]
 refine gV (fG hs pl pu ?_)
 have hno:¬ ((((sIx items.size 0 lo:Nat):Int) == 0&&(1:Int) == 1&&(sIx items.size items.size hi - sIx items.size 0 lo) == items.size)=true):=by
  simp_all
 show wpAny _ _ (if (((sIx items.size 0 lo:Nat):Int) == 0&&(1:Int) == 1&&(sIx items.size items.size hi - sIx items.size 0 lo) == items.size)=true then _ else _) _ _ s
 rw[if_neg hno,A2]
 first
  | exact gV (m:=Qe _) (Of (NG ⟨_,rfl,NG h⟩) htake)
  | exact gV (m:=Qe _) (Of (gV (NG (NG ⟨_,rfl,NG h⟩))) htake)
  | exact gV (gV (m:=Qe _) (Of (NG (NG ⟨_,rfl,NG h⟩)) htake))
  | exact gV (gV (m:=Qe _) (Of (NG ⟨_,rfl,NG h⟩) htake))
end
end HT
namespace L2
open PySem PySem.Spec PyProof.Rows
noncomputable abbrev TO:=St->Hp->(Option Int->Hp->Prop)->Prop
def PO (X:Cx) (e:Option Expr) (t:TO):Prop:=
 ∀pins s (σ:St) H Q , Inv X pins σ H s->t σ H Q →
  wpAny (model X.prog X.w) X.A (evalPart e X.env) (fun u s'=>∃o H',Inv X pins σ H' s'/\TF u o/\Q o H') X.xe s
noncomputable def Ka (t:TE):TO:=fun σ H Q=>t σ H fun x H1=>∃i,x=.int i/\Q (some i) H1
section
variable {X:Cx}{e:Expr}{te:TE}{lo hi:Option Expr}{tl th:TO}{pos p2:Pos}
def DF (h:PE X e te):PO X (some e) (Ka te):=by
 intro pins s σ H Q I hw
 rw[evalPart_some]
 refine thn (h pins s σ H _ I hw) fun u s1 ⟨x,H1,I1,r1,q1⟩=>?_
 obtain⟨i,rfl,q⟩:=q1
 obtain⟨t,rfl⟩:=r1
 exact⟨some i,H1,I1,.int i t,q⟩
def SlR (X:Cx) (r:V->Option Int->Option Int->Hp->VK->Prop):Prop:=
 ∀pins s (σ:St) H x v vl vu lo hi sl Q , Inv X pins σ H s->RelV x v->s.heap.IsSliceOf sl vl vu .none->TF vl lo->TF vu hi->r x lo hi H Q →
  ∃T id,typeLookup (.type T) "__getitem__" = pure (some (.builtin id))/\s.TypeIs v T/\wpAny (model X.prog X.w) X.A (getItem v (.ref sl)) (EP X pins σ Q) X.xe s
def SlR.or (h:SlR X r) (h':SlR X r'):SlR X (fun x lo hi H Q=>r x lo hi H Q\/r' x lo hi H Q):=by
 intro pins s σ H x v vl vu lo hi sl Q I rx hs pl pu q
 rcases q with q | q
 ·exact h pins s σ H x v vl vu lo hi sl Q I rx hs pl pu q
 ·exact h' pins s σ H x v vl vu lo hi sl Q I rx hs pl pu q
noncomputable def tSl (r:V->Option Int->Option Int->Hp->VK->Prop) (te:TE) (tl th:TO):TE:=fun σ H Q=>te σ H fun x H1=>tl σ H1 fun l H2=>th σ H2 fun u H3=>r x l u H3 Q
def BZ {r:V->Option Int->Option Int->Hp->VK->Prop} (hr:SlR X r) (he:PE X e te) (hl:PO X lo tl) (hu:PO X hi th):PE X (.Subscript e (.Slice lo hi none p2) pos) (tSl r te tl th):=by
 intro pins s σ H Q I h
 refine Ud (thn (he pins s σ H _ I h) fun v s1 ⟨x,H1,I1,r1,q1⟩=>?_)
 refine wpAny_Slice (thn (hl pins s1 σ H1 _ I1 q1) fun vl s2 ⟨l,H2,I2,pl,q2⟩=>thn (hu pins s2 σ H2 _ I2 q2) fun vu s3 ⟨u,H3,I3,pu,q3⟩=>?_)
 rw[evalPart_none]
 refine NG ?_
 have I4:Inv X pins σ H3 { s3 with heap:=s3.heap.push { cls:=.type "slice", data:=.fields #[vl,vu,.none] } }:=I3.kept (t':=s3.toks) fun b ob q=>NF _ q
 obtain⟨T,id,hT,ht,hg⟩:=hr pins { s3 with heap:=s3.heap.push { cls:=.type "slice", data:=.fields #[vl,vu,.none] } } σ H3 x v vl vu l u s3.heap.objs.size Q I4 r1 (Heap.IsSliceOf.new ..) pl pu q3
 show wpAny (model X.prog X.w) X.A (subscriptTail e (.Slice lo hi none p2) v (.ref s3.heap.objs.size)) (EP X pins σ Q) X.xe { s3 with heap:=s3.heap.push { cls:=.type "slice", data:=.fields #[vl,vu,.none] } }
 exact tail_any (ops:=[.ref s3.heap.objs.size,v]) ht hT hg (by rfl)
noncomputable def oJ (xs:List V) (lo hi:Option Int):List V:=(xs.drop (HT.sIx xs.length 0 lo)).take (HT.sIx xs.length xs.length hi - HT.sIx xs.length 0 lo)
def k7 (xs) (lo hi):(oJ xs lo hi).length<=xs.length:=by
 unfold oJ
 grind
def MJ (K:ND):V->Option Int->Option Int->Hp->VK->Prop:=fun x lo hi H Q=>∃a xs,x=.ref a/\SqT K H a xs ∧
 ¬ (HT.sIx xs.length 0 lo=0/\HT.sIx xs.length xs.length hi=xs.length)/\∀p,H p=none->Q (.ref p) (upd H p (.tup (oJ xs lo hi)))
def H_:SlR X (MJ X.K):=by
 intro pins s σ H x v vl vu lo hi sl Q I rx hs pl pu h
 obtain⟨a,xs,rfl,hx,hw,q⟩:=h
 cases rx
 obtain⟨its,r,ht,hz⟩:=I.tuple hx
 have hlen:its.toArray.size=xs.length:=by rw[OW];exact r.length.symm
 refine⟨"tuple", _,OB.lookup,ht.typeIs,?_⟩
 refine HT.jN ht hs pl pu (by simp_all) ?_ (by omega)
 rw[hlen]
 refine⟨.ref s.heap.objs.size,_,I.laid (t':=s.toks) (o:=.tup (oJ xs lo hi)) (fun b ob q=>NF _ q) (NK _) ?_,rfl,q _ (I.hok.fresh (NK _))⟩
 exact⟨N4 (k7 xs lo hi) hz,_,(r.drop (HT.sIx xs.length 0 lo)).take (HT.sIx xs.length xs.length hi - HT.sIx xs.length 0 lo),mQ.new _ _⟩
noncomputable def FW (K:ND):R2:=fun x y H Q=>∃a b xs ys,x=.ref a/\y=.ref b/\SqT K H a xs/\SqT K H b ys/\xs≠[]/\xs.length+ys.length<=sizeLine ∧
 (ys=[]->Q (.ref a) H)/\(ys≠[]->∀p,H p=none->Q (.ref p) (upd H p (.tup (xs++ys))))
def Vals.r6 (r:Vals xs us):us=[]↔xs=[]:=by
 cases r with
 | nil=>simp
 | cons _ _=>simp
def D9:OpR X (binaryOp .Add) (FW X.K):=by
 intro pins s σ H x y v u Q I rx ry h
 obtain⟨a,b,xs,ys,rfl,rfl,ha,hb,hx,hz,q1,q2⟩:=h
 cases rx
 cases ry
 obtain⟨its,r1,p1,_⟩:=I.tuple ha
 obtain⟨its2,r2,p2,_⟩:=I.tuple hb
 refine HT.D2 p1 p2 (fun z=>hx (r1.r6.mp z)) (fun z=>⟨.ref a,H,I,rfl,q1 (r2.r6.mp z)⟩) (fun z=>?_) (by rw[<- r1.length,<- r2.length];exact hz)
 refine⟨.ref s.heap.objs.size,_,I.laid (t':=s.toks) (o:=.tup (xs++ys)) (fun b ob q=>NF _ q) (NK _) ?_,rfl,q2 (fun w=>z (r2.r6.mpr w)) _ (I.hok.fresh (NK _))⟩
 exact⟨by simp_all,_,r1.append r2,mQ.new _ _⟩
end
noncomputable def ixN (n:Nat) (i:Int):Option Nat:=if 0<=i then (if i<n then some i.toNat else none) else if -(n:Int)<=i then some (i+n).toNat else none
noncomputable def atI {α:Type} (xs:List α) (i:Int):Option α:=(ixN xs.length i).bind fun j=>xs[j]?
def xH (h:ixN n i=some j):seqIndex? i n=some j/\j<n/\-(n:Int)<=i/\i<n:=by
 unfold ixN at h
 by_cases h0:0<=i
 ·rw[if_pos h0] at h
  by_cases h1:i<n
  ·rw[if_pos h1] at h
   have e:i.toNat=j:=Qb h
   exact⟨by rw[Tr h0 h1,e],by omega,by omega,h1⟩
  simp_all
 ·rw[if_neg h0] at h
  by_cases h1:-(n:Int)<=i
  ·rw[if_pos h1] at h
   have e:(i+n).toNat=j:=Qb h
   exact⟨by rw[S0 (by omega) h1,e],by omega,h1,by omega⟩
  simp_all
def l_ (h:atI xs i=some v):∃j,seqIndex? i xs.length=some j/\xs[j]?=some v/\j<xs.length/\-(xs.length:Int)<=i/\i<xs.length:=by
 unfold atI at h
 cases e:ixN xs.length i with
 | none=>simp_all
 | some j=>
  rw[e] at h
  obtain⟨h1,h2,h3,h4⟩:=xH e
  simp_all
def E5 {j:Nat}{v:α} (h:xs[j]?=some v):atI xs (j:Int)=some v:=by
 have hj:j<xs.length:=(OO.mp h).1
 have e:ixN xs.length (j:Int)=some j:=by
  unfold ixN
  simp_all
 unfold atI;simp_all
def yA (b:Expr):Prop:=∀o i,subscripted b false o i=operate [o,i] (getItem o i)
def IxR (X:Cx) (r:R2):Prop:=
 ∀value slice pins s (σ:St) H x y v u Q , Inv X pins σ H s->RelV x v->RelV y u->r x y H Q →
  subscripted slice false v u=operate [v,u] (getItem v u)->wpAny (model X.prog X.w) X.A (subscriptTail value slice v u) (EP X pins σ Q) X.xe s
def MtR (X:Cx) (id:String) (r:V->List V->Hp->VK->Prop):Prop:=
 ∀pins s (σ:St) H x xs v us Q , Inv X pins σ H s->RelV x v->Vals xs us->r x xs H Q →
  wpAny (model X.prog X.w) X.A (call (.builtin id) (v::us)) (EP X pins σ Q) X.xe s
section
variable {X:Cx}{a b:Expr}{ta tb:TE}{pos:Pos}
def IxR.or (h:IxR X r) (h':IxR X r'):IxR X (fun x y H Q=>r x y H Q\/r' x y H Q):=by
 intro value slice pins s σ H x y v u Q I rx ry q hs
 rcases q with q | q
 ·exact h value slice pins s σ H x y v u Q I rx ry q hs
 ·exact h' value slice pins s σ H x y v u Q I rx ry q hs
def JL (hr:IxR X r) (ha:PE X a ta) (hb:PE X b tb) (hs:yA b):PE X (.Subscript a b pos) (tOp r ta tb):=by
 intro pins s σ H Q I h
 exact Ud (HK ha hb I h fun v u s2 x y H2 I2 rx ry q=>hr a b pins s2 σ H2 x y v u Q I2 rx ry q (hs _ _))
noncomputable def HX (K:ND):R2:=fun x y H Q=>∃p xs i v,x=.ref p/\y=.int i/\SqL K H p xs/\atI xs i=some v/\Q v H
noncomputable def JU (K:ND):R2:=fun x y H Q=>∃p xs i v,x=.ref p/\y=.int i/\SqT K H p xs/\atI xs i=some v/\Q v H
noncomputable def J_:R2:=fun x y H Q=>∃z i c,x=.str z/\y=.int i/\z.length<=sizeLine/\atI z.cps.toList i=some c/\Q (.str ⟨#[c]⟩) H
def Fp:IxR X (HX X.K):=by
 intro value slice pins s σ H x y v u Q I rx ry h hs
 obtain⟨p,xs,i,z,rfl,rfl,hq,he,q⟩:=h
 cases rx
 obtain⟨t,rfl⟩:=ry
 obtain⟨its,r,pl,hz⟩:=I.list hq
 obtain⟨j,h1,h2,h3,h4,h5⟩:=l_ he
 obtain⟨w,ew,rw'⟩:=r.get h2
 have hl:=r.length
 have hn:=gS
 have fin:EP X pins σ Q w s:=⟨z,H,I,rw',q⟩
 by_cases h0:0<=i
 ·have hj:i.toNat=j:=by
   rw[Tr h0 h5] at h1
   simp_all
  exact item_listR pl.isList h0 (by omega) (by simp_all) fin hs
 ·have hj:(i+(its.toArray.size:Int)).toNat=j:=by
   rw[S0 (by omega) h4] at h1
   simp_all
  exact subscriptTail_builtinR (x:=w) pl.isList.typeIs slot_list_getitem.lookup
   (wpAny_getItem_list_neg (Q:=fun r s'=>r=w/\EP X pins σ Q r s') pl.isList (by omega) (by simp_all) (by omega) (by simp_all) ⟨rfl,fin⟩) hs
def G8:IxR X (JU X.K):=by
 intro value slice pins s σ H x y v u Q I rx ry h hs
 obtain⟨p,xs,i,z,rfl,rfl,hq,he,q⟩:=h
 cases rx
 obtain⟨t,rfl⟩:=ry
 obtain⟨its,r,pl,hz⟩:=I.tuple hq
 obtain⟨j,h1,h2,h3,h4,h5⟩:=l_ he
 obtain⟨w,ew,rw'⟩:=r.get h2
 have hl:=r.length
 have hn:=gS
 have fin:EP X pins σ Q w s:=⟨z,H,I,rw',q⟩
 exact subscriptTail_builtinR (x:=w) pl.typeIs slot_tuple_getitem.lookup
  (getItem_tuple (j:=j) (Q:=fun r s'=>r=w/\EP X pins σ Q r s') pl (by omega) (by omega) (by simp_all) (by simp_all) ⟨rfl,fin⟩) hs
def IQ:IxR X J_:=by
 intro value slice pins s σ H x y v u Q I rx ry h hs
 obtain⟨z,i,c,rfl,rfl,hz,he,q⟩:=h
 obtain⟨t,rfl⟩:=rx
 obtain⟨t',rfl⟩:=ry
 obtain⟨j,h1,h2,h3,h4,h5⟩:=l_ he
 have hl:z.cps.toList.length=z.length:=by rfl
 rw[hl] at h1 h4 h5
 have hn:=gS
 exact tail_any (typeIs_str s z t) slot_str_getitem.lookup (getItem_str (c:=c) (by
  grind) (by simp_all) ⟨.str ⟨#[c]⟩,H,I.tok _,⟨_,rfl⟩,q⟩) hs
noncomputable def rIx (K:ND):R2:=fun x y H Q=>HX K x y H Q\/JU K x y H Q\/J_ x y H Q
def Gm:IxR X (rIx X.K):=Fp.or (G8.or IQ)
def wU (its:List NI) (n j) (u):Qf (·.setIfInBounds j u) { cls:=.type "list", data:=.seq its.toArray n }={ cls:=.type "list", data:=.seq (its.set j u).toArray n }:=by
 simp[Qf]
theorem Inv.lst {σ:St}{H:Hp}{s:NM}{p:Addr}{xs:List V} (I:Inv X pins σ H s) (h:H p=some (.lst xs)) :
  ∃its n,Vals xs its/\s.heap.get? p=some { cls:=.type "list", data:=.seq its.toArray n }/\xs.length<=sizeLine:=by
 obtain⟨z,its,n,r,e⟩:=I.hok p _ h
 simp_all
def Inv.HS {σ:St}{its its':List NI} (I:Inv X pins σ H s) (h:H p=some (.lst xs))
  (ho:s.heap.get? p=some { cls:=.type "list", data:=.seq its.toArray n }) (hf:f { cls:=.type "list", data:=.seq its.toArray n }={ cls:=.type "list", data:=.seq its'.toArray n' }) (r:Vals ys its') (hz:ys.length<=sizeLine) (t) :
  Inv X pins σ (upd H p (.lst ys)) { s with heap:=s.heap.update p f,toks:=t }:=by
 have e:(s.heap.update p f).get? p=some { cls:=.type "list", data:=.seq its'.toArray n' }:=by
  rw[Oy f ho (by rw[hf]<;>rfl),hf]
 refine I.write (x:=p) (e:=p) (by rw[h];trivial) (.inl rfl) (fun b u hb q=>(OQ _ _ (Q7 hb)).trans q) ⟨_,e⟩ ?_
 exact⟨hz,its',n',r,e⟩
def F1:V->V->V->Hp->(Hp->Prop)->Prop:=fun o i v H Q=>∃p xs k j,o=.ref p/\i=.int k/\H p=some (.lst xs)/\ixN xs.length k=some j/\Q (upd H p (.lst (xs.set j v)))
def set_list:EU X F1:=by
 intro pins s σ H o i v ov iv u Q I ro ri rv h
 obtain⟨p,xs,k,j,rfl,rfl,hp,hj,q⟩:=h
 cases ro
 obtain⟨t,rfl⟩:=ri
 obtain⟨its,n,r,ho,hz⟩:=I.lst hp
 obtain⟨h1,h2,h3,h4⟩:=xH hj
 have hl:=r.length
 have hn:=gS
 have I':Inv X pins σ (upd H p (.lst (xs.set j v))) { s with heap:=s.heap.update p (Qf (·.setIfInBounds j u)) }:=
  I.HS hp ho (wU its n j u) (r.set rv j) (by simp_all) s.toks
 by_cases h0:0<=k
 ·have hk:k.toNat=j:=by
   rw[Tr h0 h4] at h1
   simp_all
  exact PySem.W.ki_setAt ho h0 (by omega) (by simp_all) (by grind)
 ·have hk:(k+(its.toArray.size:Int)).toNat=j:=by
   rw[S0 (by omega) h3] at h1
   simp_all
  exact PySem.W.ki_setBack ho (by omega) (by simp_all) (by omega) (by grind)
def rB (lo hi:Option Int) (n:Nat):(sliceBounds lo hi none n).1=((HT.sIx n 0 lo:Nat):Int)/\(sliceBounds lo hi none n).2.1=((HT.sIx n n hi:Nat):Int)/\(sliceBounds lo hi none n).2.2=1:=by
 refine⟨?_,?_,rfl⟩
 ·cases lo with
  | none=>rfl
  | some i=>
   simp only[sliceBounds,HT.sIx,Option.getD_none,show(1:Int) > 0 by decide,if_true]
   grind
 ·cases hi with
  | none=>rfl
  | some i=>
   simp only[sliceBounds,HT.sIx,Option.getD_none,show(1:Int) > 0 by decide,if_true]
   grind
def oB (its:List NI) (lo hi):slicePick its.toArray lo hi none=((its.drop (HT.sIx its.length 0 lo)).take (HT.sIx its.length its.length hi - HT.sIx its.length 0 lo)).toArray:=by
 obtain⟨h1,h2,h3⟩:=rB lo hi its.toArray.size
 unfold slicePick
 rw[h1,h2,h3]
 simp only[sliceRange_one,pick_run,OW]<;>rfl
def Mz (K:ND):V->Option Int->Option Int->Hp->VK->Prop:=fun x lo hi H Q=>∃a xs,x=.ref a/\SqL K H a xs/\∀p,H p=none->Q (.ref p) (upd H p (.lst (oJ xs lo hi)))
def Ff:SlR X (Mz X.K):=by
 intro pins s σ H x v vl vu lo hi sl Q I rx hs pl pu h
 obtain⟨a,xs,rfl,hx,q⟩:=h
 cases rx
 obtain⟨its,r,ht,hz⟩:=I.list hx
 have hlen:=r.length
 refine⟨"list", _,slot_list_getitem.lookup,ht.isList.typeIs,?_⟩
 refine wpAny_getItem_list_slice ht.isList hs pl pu .none (by simp) ?_ (by simp_all)
 rw[oB,<- hlen]
 refine⟨.ref s.heap.objs.size,_,I.laid (t':=s.toks) (o:=.lst (oJ xs lo hi)) (fun b ob q=>NF _ q) (NK _) ?_,rfl,q _ (I.hok.fresh (NK _))⟩
 exact⟨N4 (k7 xs lo hi) hz,_,0,(r.drop (HT.sIx xs.length 0 lo)).take (HT.sIx xs.length xs.length hi - HT.sIx xs.length 0 lo),NN _ rfl⟩
noncomputable def iG:V->Bool
 | .non=>true
 | .bl _=>true
 | .int _=>true
 | .str _=>true
 | _=>false
noncomputable def eqV:V->V->Bool
 | .non,.non=>true
 | .bl a,.bl b=>a == b
 | .bl a,.int b=>(if a then 1 else 0) == b
 | .int a,.bl b=>a == (if b then 1 else 0)
 | .int a,.int b=>a == b
 | .str a,.str b=>a == b
 | _,_=>false
def IF (ry:RelV y u) (rx:RelV x v) (fy:iG y=true) (fx:iG x=true):O0 A s u v (eqV y x):=by
 cases y with
 | non=>
  cases ry
  cases x with
  | non=>cases rx;exact O0.same _
  | bl b=>cases rx;exact O0.none_bool b
  | int b=>obtain⟨t,rfl⟩:=rx;exact O0.none_int b t
  | str b=>obtain⟨t,rfl⟩:=rx;exact O0.none_str b t
  | _=>exact absurd (show false=true from fx) Og
 | bl a=>
  cases ry
  cases x with
  | non=>cases rx;exact O0.bool_none a
  | bl b=>cases rx;exact RS a b
  | int b=>obtain⟨t,rfl⟩:=rx;exact O0.bool_int a b t
  | str b=>obtain⟨t,rfl⟩:=rx;exact O0.bool_str a b t
  | _=>exact absurd (show false=true from fx) Og
 | int a=>
  obtain⟨t',rfl⟩:=ry
  cases x with
  | non=>cases rx;exact O0.int_none a t'
  | bl b=>cases rx;exact O0.int_bool a t' b
  | int b=>obtain⟨t,rfl⟩:=rx;exact O0.int_int a t' b t
  | str b=>obtain⟨t,rfl⟩:=rx;exact O0.int_str a t' b t
  | _=>exact absurd (show false=true from fx) Og
 | str a=>
  obtain⟨t',rfl⟩:=ry
  cases x with
  | non=>cases rx;exact O0.str_none a t'
  | bl b=>cases rx;exact O0.str_bool a t' b
  | int b=>obtain⟨t,rfl⟩:=rx;exact O0.str_int a t' b t
  | str b=>obtain⟨t,rfl⟩:=rx;exact O0.str_str a t' b t
  | _=>exact absurd (show false=true from fx) Og
 | _=>exact absurd (show false=true from fy) Og
noncomputable def eqU (x:V) (u:NI):Bool:=match u with
 | .none=>eqV .non x
 | .bool b=>eqV (.bl b) x
 | .int i _=>eqV (.int i) x
 | .str z _=>eqV (.str z) x
 | _=>false
def Dc (r:RelV y u) (f:iG y=true):eqU x u=eqV y x:=by
 cases y with
 | non=>cases r;rfl
 | bl b=>cases r;rfl
 | int i=>obtain⟨t,rfl⟩:=r;rfl
 | str z=>obtain⟨t,rfl⟩:=r;rfl
 | _=>exact absurd (show false=true from f) Og
theorem rC {x:V}:∀{xs:List V}{us:List NI},Vals xs us->xs.all iG=true->us.any (eqU x)=xs.any fun y=>eqV y x
 | _,_,.nil,_=>rfl
 | y::xs,u::us,.cons r t,f=>by
  rw[Rc,N5] at f
  rw[Pf,Pf,Dc r f.1,rC t f.2]
theorem mU {A:Oa}{s:NM}{x:V}{v:NI} (rx:RelV x v) (fx:iG x=true):∀{xs:List V}{us:List NI},Vals xs us->xs.all iG=true->∀u∈us,O0 A s u v (eqU x u)
 | _,_,.nil,_=>fun u hu=>by cases hu
 | y::xs,u::us,.cons r t,f=>fun u' hu=>by
  rw[Rc,N5] at f
  rcases NV.mp hu with rfl | hu
  ·rw[Dc r f.1];exact IF r rx f.1 fx
  ·exact mU rx fx t f.2 u' hu
noncomputable def inV (x:V) (xs:List V):Bool:=xs.any fun y=>eqV y x
noncomputable def rIn (K:ND) (neg:Bool):R2:=fun x y H Q=>∃p xs,y=.ref p/\(SqL K H p xs\/SqT K H p xs)/\iG x=true/\xs.all iG=true/\Q (.bl (if neg then !inV x xs else inV x xs)) H
def jF:OpR X (compareOp .NotIn) (rIn X.K true):=by
 intro pins s σ H x y v u Q I rx ry h
 obtain⟨p,xs,rfl,hq,fx,fs,q⟩:=h
 cases ry
 rcases hq with hq | hq
 ·obtain⟨its,r,pl,hz⟩:=I.list hq
  refine SeqAt.notIn_listAt (eqU x) pl.isList (fun w hw=>mU rx fx r fs w (by simp_all)) ⟨.bl _,H,I,rfl,?_⟩
  rw[show its.toArray.any (eqU x)=its.any (eqU x) by simp,rC r fs]
  exact q
 ·obtain⟨its,r,pl,hz⟩:=I.tuple hq
  refine SeqAt.notIn_tupleAt (eqU x) pl (fun w hw=>mU rx fx r fs w (by simp_all)) ⟨.bl _,H,I,rfl,?_⟩
  rw[show its.toArray.any (eqU x)=its.any (eqU x) by simp,rC r fs]
  exact q
def qA:aV X (.builtin "len") (fun xs H Q=>∃p ys,xs=[.ref p]/\(SqL X.K H p ys\/SqT X.K H p ys)/\Q (.int ys.length) H):=by
 intro pins s σ H xs us Q I r h
 obtain⟨p,ys,rfl,hq,q⟩:=h
 obtain⟨u,rfl,rx⟩:=vals1 r
 cases rx
 have hn:=gS
 rcases hq with hq | hq
 ·obtain⟨its,r',pl,hz⟩:=I.list hq
  have hlen:=r'.length
  exact Calls.call_len_list pl.isList (by grind) ⟨.int ys.length,H,I.tok _,⟨s.toks+1,by simp_all⟩,q⟩
 ·obtain⟨its,r',pl,hz⟩:=I.tuple hq
  have hlen:=r'.length
  exact len_tuple pl (by grind) ⟨.int ys.length,H,I.tok _,⟨s.toks+1,by simp_all⟩,q⟩
def qO:aV X (.builtin "len") (fun xs H Q=>∃z,xs=[.str z]/\z.length<=sizeLine/\Q (.int z.length) H):=by
 intro pins s σ H xs us Q I r h
 obtain⟨z,rfl,hz,q⟩:=h
 obtain⟨u,rfl,t,rfl⟩:=vals1 r
 have hn:=gS
 exact len_str (by omega) ⟨.int z.length,H,I.tok _,⟨_,rfl⟩,q⟩
def aV.or (h:aV X f r) (h':aV X f r'):aV X f (fun xs H Q=>r xs H Q\/r' xs H Q):=by
 intro pins s σ H xs us Q I rs q
 rcases q with q | q
 ·exact h pins s σ H xs us Q I rs q
 ·exact h' pins s σ H xs us Q I rs q
def ou:aV X (.type "tuple") (fun xs H Q=>∃p ys,xs=[.ref p]/\((SqL X.K H p ys/\∀l,H l=none->Q (.ref l) (upd H l (.tup ys)))\/(SqT X.K H p ys/\Q (.ref p) H))):=by
 intro pins s σ H xs us Q I r h
 obtain⟨p,ys,rfl,h⟩:=h
 obtain⟨u,rfl,rx⟩:=vals1 r
 cases rx
 rcases h with⟨hq,q⟩ | ⟨hq,q⟩
 ·obtain⟨its,r',pl,hz⟩:=I.list hq
  have hlen:=r'.length
  refine call_tuple_list pl.isList (fun h' kp=>?_) (by simp_all)
  have I1:Inv X pins σ H { s with heap:=h' }:=I.kept (t':=s.toks) kp
  have I2:Inv X pins σ (upd H h'.objs.size (.tup ys)) { s with heap:=h'.push { cls:=.type "tuple", data:=.seq its.toArray } }:=
   I1.laid (t':=s.toks) (fun b o e=>NF _ e) (NK _) (show a_ X.prog X.w _ _ _ (.tup ys) from⟨hz,its,r',mQ.new _ _⟩)
  exact⟨.ref h'.objs.size,_,I2,rfl,q _ (I1.hok.fresh (NK _))⟩
 ·obtain⟨its,r',pl,hz⟩:=I.tuple hq
  exact call_tuple_same pl ⟨.ref p,H,I,rfl,q⟩
def tyV (K:ND) (T:String) (x:V) (H:Hp):Prop:=match x with
 | .str _=>T="str"
 | .int _=>T="int"
 | .ref p=>(T="list" /\ ∃xs,SqL K H p xs)\/(T="tuple" /\ ∃o,K.lookup p=some o/\o.cls=.type "tuple" /\ o.dict=none) ∨
   (T="dict" /\ ((∃kvs,H p=some (.dK kvs))\/∃kvs,H p=some (.dT kvs)))\/(T="set" /\ ∃S n,H p=some (.set S n))\/(T="tuple" /\ ∃xs,H p=some (.tup xs))
 | _=>False
def Gx {pins:List (Addr × Obj)}{σ:St}{H:Hp}{s:NM}{T:String}{x:V}{v:NI} (I:Inv X pins σ H s) (r:RelV x v) (ty:tyV X.K T x H) :
  s.TypeIs v T/\∀a,v=.ref a->∃ob,s.heap.get? a=some ob/\ob.dict=none:=by
 cases x with
 | str z=>
  obtain⟨t,rfl⟩:=r
  cases (show T="str" from ty)
  exact⟨typeIs_str s z t,fun _ e=>nomatch e⟩
 | int i=>
  obtain⟨t,rfl⟩:=r
  cases (show T="int" from ty)
  exact⟨Ue s i t,fun _ e=>nomatch e⟩
 | ref p=>
  cases r
  rcases ty with⟨rfl,xs,hq⟩ | ⟨rfl,o,hk,hc,hd⟩ | ⟨rfl,hk⟩ | ⟨rfl,S,n,hk⟩ | ⟨rfl,xs,hk⟩
  ·obtain⟨its,_,pl,_⟩:=I.list hq
   refine⟨pl.isList.typeIs,fun a e=>?_⟩
   cases e
   obtain⟨o,n,e,c,hd,_⟩:=pl
   simp_all
  ·refine⟨⟨o,I.kIn p o hk,hc⟩,fun a e=>?_⟩
   cases e
   exact⟨o,I.kIn _ o hk,hd⟩
  ·have z:∃o,s.heap.get? p=some o/\o.ExactDict:=by
    rcases hk with⟨kvs,hk⟩ | ⟨kvs,hk⟩
    ·obtain⟨_,_,_,_,o,_,_,e,ex,_⟩:=I.hok p _ hk
     simp_all
    ·obtain⟨_,_,_,_,o,_,_,e,ex,_⟩:=I.hok p _ hk
     simp_all
   obtain⟨o,e,ex⟩:=z
   refine⟨⟨o,e,ex.1⟩,fun a e2=>?_⟩
   cases e2
   exact⟨o,e,ex.2.1⟩
  ·obtain⟨o,_,_,_,e,ex,_⟩:=I.hok p _ hk
   refine⟨⟨o,e,ex.1⟩,fun a e2=>?_⟩
   cases e2
   exact⟨o,e,ex.2.1⟩
  ·obtain⟨_,_,_,o,e,⟨c,_⟩,hd⟩:=I.hok p _ hk
   refine⟨⟨o,e,c⟩,fun a e2=>?_⟩
   simp_all
 | _=>exact QE ty
noncomputable def tBM (K:ND) (T:String) (r:V->List V->Hp->VK->Prop) (to:TE) (t:TA):TE:=fun σ H Q=>to σ H fun x H1=>tyV K T x H1/\t σ H1 fun xs H2=>r x xs H2 Q
variable {o e:Expr}{es:List Expr}{to:TE}{t:TA}{name:Str}{apos cpos:Pos}{T id:String}{r:V->List V->Hp->VK->Prop}
def KI (pa:PlainAttrs T) (slot:Slot T name id) (hty:typeOf (.builtin id)=pure (.type "method_descriptor")) (hm:MtR X id r) (ho:PE X o to) (ha:PA X (e::es) t)
  (hbase:attributeBase o name X.env (eval o X.env)=eval o X.env:=by rfl)
  (hfew:((backTo cpos (starEach (e::es) X.env)).all (fun x=>!x.1)&&(backToKw cpos (keywordEach [] X.env)).all (fun x=>x.1.isSome)
   && decide ((e::es).length+([]:List T7).length+(if ([]:List T7).isEmpty then 0 else 1)<30))=true:=by rfl)
  (hline:(apos.endLine == cpos.line)=true:=by rfl) (hs:starEach (e::es) X.env=(false,eval e X.env)::starEach es X.env:=by rfl) (hplain:(backTo cpos (starEach es X.env)).any (·.1)=false:=by rfl) :
  PE X (.Call (.Attribute o name apos) (e::es) [] cpos) (tBM X.K T r to t):=by
 intro pins s σ H Q I h
 refine wpAny_Call_method_late hbase hfew hline rfl (thn (ho pins s σ H _ I h) fun v s1 ⟨x,H1,I1,r1,ty,q1⟩=>?_)
 obtain⟨h1,h2⟩:=Gx I1 r1 ty
 refine⟨T,id,pa,slot,hty,h1,h2,?_⟩
 have hA:=ha cpos pins s1 σ H1 _ I1 q1
 rw[hs] at hA ⊢
 refine Calls.callWith_builtin (by simp_all) (Calls.evalArgs_plain ?_)
 exact thn hA fun us s2 ⟨vs,H2,I2,r2,q2⟩=>hm pins s2 σ H2 x vs v us Q I2 r1 r2 q2
/- xs.append(e),list.index on a module's tuple .. are MtR facts of 06m -/
end
def MtM (X:Cx) (id:String) (r:V->List V->Hp->VK->Prop):Prop:=
 ∀pins s (σ:St) H x xs v us Q , Inv X pins σ H s->RelV x v->Vals xs us->r x xs H Q →
  wpAny (model X.prog X.w) X.A (call (.builtin id) (v::us)) (EP X pins σ Q) X.xe s
def Vals.one:∀{x:V}{us:List NI},Vals [x] us->∃u,us=[u]/\RelV x u
 | _,_,.cons r .nil=>⟨_,rfl,r⟩
theorem Vals.rep {xs:List V}{us:List NI} (h:Vals xs us):∀k:Nat,Vals (N1 k xs).flatten (N1 k us).flatten
 | 0=>.nil
 | k+1=>by
  rw[QW,QW,List.flatten_cons,List.flatten_cons]
  exact Vals.append h (Vals.rep h k)
theorem foldl_rep (its:List NI):∀(k:Nat) (acc:List NI),
  Ug (fun x1 x2=>x1++x2) acc.toArray (N1 k its.toArray)=(acc++(N1 k its).flatten).toArray
 | 0,acc=>by simp
 | k+1,acc=>by
  have e:acc.toArray++its.toArray=(acc++its).toArray:=by simp
  have e2:(acc++its)++(N1 k its).flatten=acc++(N1 (k+1) its).flatten:=by
   grind
  rw[<- e2,<- foldl_rep its k (acc++its),<- e,QW,Qg]
section
variable {X:Cx}{pins:List (Addr × Obj)}{σ:St}{H:Hp}{s:NM}{l b:Addr}{xs ys zs:List V}
def Inv.JG {its its':List NI} (I:Inv X pins σ H s) (hH:H l=some (.lst xs))
  (e:s.heap.get? l=some { cls:=.type "list", data:=.seq its.toArray n }) (hf:f its.toArray=its'.toArray) (hv:Vals ys its') (hz:ys.length<=sizeLine) :
  Inv X pins σ (upd H l (.lst ys)) { s with heap:=s.heap.update l (Qf f),toks:=t' }:=by
 have q:=PySem.IsL.update e f
 rw[hf] at q
 refine I.write (x:=l) (e:=l) (by rw[hH];exact trivial) (.inl rfl) (fun b' u hb hu=>(OQ s.heap (Qf f) (Q7 hb)).trans hu) ⟨_,q⟩ ?_
 exact⟨hz,its',_,hv,q⟩
def Inv.EX (I:Inv X pins σ H s) (hv:Vals ys its) (hz:ys.length<=sizeLine) :
  Inv X pins σ (upd H s.heap.objs.size (.lst ys)) { s with heap:=s.heap.push { cls:=.type "list", data:=.seq its.toArray },toks:=t' }:=
 I.laid (fun _ _ q=>NF _ q) (NK _) ⟨hz,its,0,hv,NN _ rfl⟩
theorem Inv.fresh (I:Inv X pins σ H s):H s.heap.objs.size=none:=I.hok.fresh (NK _)
def Inv.Kj (I:Inv X pins σ H s) (hH:H l=some (.lst xs)):xs.length<=sizeLine/\∃its n,Vals xs its/\xs.length=its.length/\s.heap.get? l=some { cls:=.type "list", data:=.seq its.toArray n }:=by
 obtain⟨z,its,n,r,e⟩:=I.hok l _ hH
 exact⟨z,its,n,r,r.length,e⟩
def ur (h:n<=sizeLine):Qh n=false:=by
 unfold Qh
 simp_all
end
section
variable {X:Cx}
def xV:V->List V->Hp->VK->Prop:=fun x vs H Q=>∃l xs y,x=.ref l/\vs=[y]/\H l=some (.lst xs)/\xs.length<sizeLine/\Q .non (upd H l (.lst (xs++[y])))
def fJ:MtM X "list.append" xV:=by
 intro pins s σ H x vs v us Q I rx rv h
 obtain⟨l,xs,y,rfl,rfl,hH,hz,q⟩:=h
 cases rx
 obtain⟨u,rfl,ru⟩:=rv.one
 obtain⟨z,its,n,r,hl,e⟩:=I.Kj hH
 refine Sq F.slot_list_append ⟨_,e,rfl⟩ F.entry_list_append (F.args_list_append_2 _ _) (PySem.list_append l its.toArray n u (by simp_all)) ⟨e,?_⟩
 refine⟨.non,_,I.JG (its':=its++[u]) hH e (by simp) (r.append (.cons ru .nil)) ?_,rfl,q⟩
 grind
def len_rep {α:Type} (xs:List α) (k):(N1 k xs).flatten.length=k*xs.length:=by
 simp
end
end L2
namespace Att
open PySem PySem.W PySem.Calls PyProof.Rows
def lO:∀ns vs , WellAll P h vs (ns.map WData.int)->IntsAre vs ns:=by
 intro ns
 induction ns with
 | nil=>
  intro vs w
  rw[S3] at w
  cases w
  exact .nil
 | cons n ns ih=>
  intro vs w
  rw[NR] at w
  cases w with
  | cons a b=>
   cases a
   exact .cons _ _ (ih _ b)
def zd {l:Uk} (hn:l.most=some n)
  (hpre:l.row.toRowW.claim.pre args=true) (hwl:WellAll P h vals args) :
  ∃a vs ns,vals=[Ob a]/\args=[WData.list (ns.map WData.int)]/\h.get? a=some { cls:=.type "list", data:=.seq vs.toArray }/\IntsAre vs ns/\ns.length<=n:=by
 have hsh:WShape.hasAll [] args [.list .int]=true:=(pre_splitW hpre).1
 have hc:l.pre.holds [] { args:=args }=true:=(pre_splitW hpre).2
 obtain⟨d,r,rfl,h1,h2⟩:=hasAllW_cons hsh
 obtain rfl:=hasAllW_nil h2
 obtain⟨xs,rfl,h3⟩:=hasW_list h1
 obtain⟨ns,rfl⟩:=items_int h3
 have hlen:ns.length<=n:=by
  unfold Uk.pre at hc
  have h4:(WTm.not (.lt (.lit (.int (n:Int))) (.len (.arg 0)))).holds [] { args:=[.list (ns.map .int)] }=true:=by
   have h4:=(holds_andW hc).1
   simp_all
  have h5:=condW_of h4 (w_not (w_lt w_lit (w_len_list (w_arg rfl))))
  simp_all
 cases hwl with
 | cons w1 w2=>
  cases w2
  cases w1 with
  | list ho hall=>exact⟨_,_,ns,rfl,rfl,ho,lO ns _ hall,hlen⟩
def yN (l:Uk) (args):l.row.toRowW.claim.post args (.bool true) args=true:=
 postW_of (r:=l.row.toRowW) (X:=(true == true))
  (show WShape.has [] (.bool true) .bool=true by rfl)
  (show(WTm.eq .res (.lit (.bool true))).value [] { args:=args,res:=some (.bool true),after:=args }=some (.bool (true == true)) from w_eq_bool (w_res rfl) w_lit) rfl
def uX {l:Uk}
  (hn:l.most=some n) (hdf:d.params.defaults=[])
  (call:∀w ax s₁ mg mb fa o pm cd doc a vs ns ,
   Ground q loose [] XP w ax mg mb s₁.heap->YP w s₁.heap →
   s₁.heap.get? fa=some o->o.data=.func (docDef d.name d.params d.body d.scope pm cd doc)->s₁.heap.CodeRec cd d.name->mg d.name=some (.ref fa) →
   s₁.heap.get? a=some { cls:=.type "list", data:=.seq vs.toArray }->IntsAre vs ns->ns.length<=n->s₁.gens = #[] →
   codeAny (model l.prog w) callerA (.call (.ref fa) ⟨[.ref a],[]⟩) (fun r s'=>r=.ok (.ret (.bool true))/\OldK s₁.heap s'.heap/\s'.os=s₁.os/\SE s'.gens) s₁) :
  WalkO q loose XP YP l.row.toRowW d [] (fun f vs=>Uh f vs):=by
 intro w ax s₁ mg mb G Y fa o pm cd doc dV kV ho hd hcd hD hmg hg args vals as hpre hlay hrd hwl hlo
 obtain rfl:dV=.none:=Dflts.none hD hdf
 obtain rfl:kV=.none:=Dflts.noKw hD
 obtain⟨a,vs,ns,rfl,rfl,hobj,hints,hlen⟩:=zd hn hpre hwl
 refine enter_call (PF (call w ax s₁ mg mb fa o pm cd doc a vs ns G Y ho (fd_plain hd) hcd hmg hobj hints hlen hg) fun r s' hq=>?_)
 obtain⟨rfl,h2,h3,h4⟩:=hq
 exact⟨.inl ⟨.bool true,.bool true,[],rfl,fun _=>rfl,.bool true,yN l _,fun _=>⟨Rw,fun _ hm=>(nomatch hm)⟩⟩,h2,h3,h4⟩
end Att
namespace L2
open PySem PySem.Spec PyProof.Rows
theorem qb:∀{vs:List NI}{ns:List Int},IntsAre vs ns->Vals (ns.map V.int) vs
 | _,_,.nil=>.nil
 | _,_,.cons n t h=>.cons ⟨t,rfl⟩ (qb h)
def MY (H:Hp):Prop:=∀b,H b=none\/∃o xs,H b=some (.frz o (.lst xs))
end L2
/- THE LAST THEOREM (shape;LID,My.* are yours):
  My.Adr: a structure of the addresses that your layer names (classes,functions);My.Txt K t: a structure (Prop) of the equations over K;
  My.txt_mk:{K} {implicit addresses ..} (e1:nsIn K mainGlobals "law" = some (some (.ref f))) (e2:K.lookup f=some ⟨oc,od,.func (fnOf "law" "law" params body scope dV kV doc pm an cdv ct),sl⟩) (e3:codeIn K cdv "law" = true) .. : ∃t,My.Txt K t
(the tactic k_is has no namespace: write k_is) -/
namespace L2
open PySem PySem.Spec PyProof.Rows
noncomputable def cf (s:Stmt):Tz:=match s with
 | .FunctionDef _ a _ _ _ _ _ _ _ _=>a
 | _=>{ posonlyargs:=[],args:=[],vararg:=none,kwonlyargs:=[],kw_defaults:=[],kwarg:=none,defaults:=[] }
noncomputable def aP (s:Stmt):List Stmt:=match s with
 | .FunctionDef _ _ b _ _ _ _ _ _ _=>b
 | _=>[]
noncomputable def ag (s:Stmt):R0:=match s with
 | .FunctionDef _ _ _ _ _ _ sc _ _ _=>sc
 | _=>{ kind:=.function,names:=[],isGenerator:=false,isCoroutine:=false }
noncomputable abbrev CX0:CXT:=fun _ _ _ _ _ _=>False
noncomputable abbrev E0:XK:=fun _ _ _=>False
def Kn:Passes CX0 X E0:=fun _ _ _ _ _ _ _ h=>h.elim
structure Fun (K) (x qual) (st) (f) (fd):Prop where
 ex:∃oc od kV doc pm an cdv ct osl,
  fd=OP x qual (cf st) (aP st) (ag st) .none kV doc pm an cdv ct/\K.lookup f=some ⟨oc,od,.func fd,osl⟩/\QP K cdv qual=true
 kp:Om K (.ref f)=true
section
variable {P:NT}{w:Oe}{K:ND}{mg:Str->Option NI}{base:Heap}
def Fun.ok {st:Stmt} (F:Fun K x qual st f fd) (S:az N ps (ag st)) (len:∀vs H Q E,sp vs H Q E->vs.length=ps.length)
  (hbody:∀cdv A outer s H vs Q E , bG k (A.deeper (envOfC qual (ag st) s.heap.objs.size f cdv))->sp vs H Q E →
   ∃t,PSs (dW CX0 P w K mg base N qual (ag st) f cdv A outer s H E).nox (aP st) t/\t { nx:=fun _ H'=>Q .non H',rt:=Q } (start N vs) H):b9 P w K mg base CX0 (k+1) f fd ps sp:=by
 obtain⟨oc,od,kV,doc,pm,an,cdv,ct,osl,rfl,lk,hcd⟩:=F.ex
 refine Gg lk hcd S len fun A outer s H vs Q E hr hsp=>?_
 obtain⟨t,h,q⟩:=hbody cdv A outer s H vs Q E hr hsp
 exact⟨t,h.nox,q⟩
def Fun.binds {st:Stmt} (F:Fun K x qual st f fd)
  (h:∀kV doc pm an cdv ct us , us.length=ps.length->bindArgs (OP x qual (cf st) (aP st) (ag st) .none kV doc pm an cdv ct) ⟨us,[]⟩=pure (ps.zip us)):Binds K fd ps []:=by
 obtain⟨oc,od,kV,doc,pm,an,cdv,ct,osl,rfl,lk,hcd⟩:=F.ex
 exact .all (h kV doc pm an cdv ct)
def vm {st:Stmt}{kV doc pm cdv ct:NI} (l:K.lookup f=some ⟨oc,od,.func (OP x qual (cf st) (aP st) (ag st) .none kV doc pm an cdv ct),osl⟩)
  (c:QP K cdv qual=true) (k:Om K (.ref f)=true):Fun K x qual st f (OP x qual (cf st) (aP st) (ag st) .none kV doc pm an cdv ct):=⟨⟨oc,od,kV,doc,pm,an,cdv,ct,osl,rfl,l,c⟩,k⟩
end
def PTs (X:Cx) (ifs:List Expr) (t:TT):Prop:=
 ∀pins s (σ:St) H Q , Inv X pins σ H s->t σ H Q →
  wpAny (model X.prog X.w) X.A (forIn ifs true fun c r=>if r=true then do let ok ← isTrue c X.env (eval c X.env);pure (PM ok) else pure (PM r)) (TP X pins σ Q) X.xe s
noncomputable def KG:TT:=fun _ H Q=>Q true H
def Du:PTs X [] KG:=fun _ _ _ H _ I h=>wpAny_tests_nil ⟨H,I,h⟩
def Fh (h:PT X c t):PTs X [c] t:=fun pins s σ H Q I q=>wpAny_tests_one (h pins s σ H Q I q)
def t_ (I:Nat->NM->Prop)
  (turn:∀n s,I n s->wpAny (model prog w) A (pyNext it) (fun r s₁=>match r with
   | none=>R (.ok .next) s₁
   | some v=>wpAny (model prog w) A (letOwnedTupleGo target it v) (fun _ s₁=>wpAny (model prog w) A (assign target env v) (fun _ s₂=>
     wpAny (model prog w) A (forIn ifs true fun c r=>if r=true then do let ok ← isTrue c env (eval c env);pure (PM ok) else pure (PM r)) (fun ok s₃=>
      if ok=true then wpAny (model prog w) A (eval elt env) (fun x s₄=>
       wpAny (model prog w) A (call (.builtin "list.append") [acc,x]) (fun _ s₅=>∃m,m<n/\I m s₅) (fun _ _=>False) s₄) (fun _ _=>False) s₃
      else ∃m,m<n/\I m s₃) (fun _ _=>False) s₂) (fun _ _=>False) s₁) (fun _ _=>False) s₁) (fun _ _=>False) s)
  (n) (h:I n s) :
  codeAny (model prog w) A (.compLoop (.ListComp elt [⟨target,iter,ifs,0⟩] scope pos) 0 it acc env) R s:=by
 refine TX rfl I (fun n s hI=>?_) n h
 refine T8 ?_
 refine SG ?_
 refine gV (OV (gV (N6 (turn n s hI) (fun r s₁ h₁=>?_) fun _ _ h'=>h')))
 cases r with
 | none=>exact NG h₁
 | some v=>
  refine gV (N6 h₁ (fun _ s₁' h₁'=>?_) fun _ _ h'=>h')
  refine gV (N6 h₁' (fun _ s₂ h₂=>gV (N6 h₂ (fun ok s₃ h₃=>?_) fun _ _ h'=>h')) fun _ _ h'=>h')
  cases ok with
  | false=>exact NG ⟨rfl,h₃⟩
  | true=>
   exact gV (gV (N6 h₃ (fun x s₄ h₄=>gV (N6 h₄ (fun _ s₅ h₅=>NG (NG ⟨rfl,h₅⟩)) fun _ _ h'=>h')) fun _ _ h'=>h'))
noncomputable def aZ (X:Cx) (scope:R0) (cl:List (Str × Addr)) (C:Addr) (ax:NM) (aD:Hp) (fp:List Addr) (N':List Str):Cx:=
 { X with N:=N',ax:=ax,aD:=aD,env:=compEnvC scope cl C X.env,outer:=X.stack,ex:=fp,fn:=fun _=>false,pn:=[] }
theorem iO {env:Env}:∀(names:List (Str × PQ)) (cs:List (Str × Addr)),(∀y∈names,y.2=.free->∃a,env.cells.lookup y.1=some a)->(∀x c,cs.lookup x=some c->env.cells.lookup x=some c) →
  ∃cl:List (Str × Addr),(forIn names cs fun(y:Str × PQ) (r:List (Str × Addr))=>if (y.2 == QG)=true then do let a ← cellOf env y.1;pure (PM ((y.1,a)::r)) else pure (PM r):Sem (List (Str × Addr)))=pure cl ∧
   (∀x c,cl.lookup x=some c->env.cells.lookup x=some c)/\(∀x,((x,QG)∈names\/∃c,cs.lookup x=some c)->∃c,cl.lookup x=some c)
 | [],cs,_,h=>⟨cs,rfl,h,fun x hx=>by
   simp_all⟩
 | (n,k)::r,cs,hf,h=>by
  by_cases hk:k=.free
  ·subst hk
   obtain⟨a,ha⟩:=hf (n,.free) (by simp) rfl
   obtain⟨cl,e,h1,h2⟩:=iO r ((n,a)::cs) (fun y hy=>hf y (NH _ hy)) (fun x c q=>by
    grind)
   refine⟨cl,?_,h1,fun x hx=>?_⟩
   ·rw[List.forIn_cons]
    have e0:cellOf env n=pure a:=by unfold cellOf;rw[ha]
    simp_all
   ·have hc:∀z c,cs.lookup z=some c->∃c,((n,a)::cs).lookup z=some c:=fun z c q=>by
     grind
    rcases hx with z | ⟨c,z⟩
    ·rcases NV.mp z with q | q
     ·simp_all
     simp_all
    simp_all
  ·obtain⟨cl,e,h1,h2⟩:=iO r cs (fun y hy=>hf y (NH _ hy)) h
   grind
def iH (h:∀y∈scope.names,y.2=.free->∃a,env.cells.lookup y.1=some a) :
  ∃cl:List (Str × Addr),closureFor scope env=pure cl/\(∀x c,cl.lookup x=some c->env.cells.lookup x=some c)/\(∀x,(x,QG)∈scope.names->∃c,cl.lookup x=some c):=by
 obtain⟨cl,e,h1,h2⟩:=iO scope.names [] h (fun x c q=>by cases q)
 refine⟨cl,?_,h1,fun x hx=>h2 x (.inl hx)⟩
 exact NS (congrArg (fun t:Sem (List (Str × Addr))=>t >>= fun cs=>pure cs) e) rfl
theorem lookup_mem {x:Str}{k:PQ}:∀{names:List (Str × PQ)},names.lookup x=some k->(x,k)∈names
 | [],h=>by cases h
 | (n,j)::r,h=>by
  rw[List.lookup_cons] at h
  cases hx:x == n with
  | true=>
   simp_all
  | false=>rw[hx] at h;exact NH _ (lookup_mem h)
theorem cJ {env:Env} (hf:env.scope.kind=.function):∀{names:List (Str × PQ)}{x:Str},names.lookup x=some .free->env.kindOf x=some .cell →
  (names.map fun(n,k)=>if (k == QG&&env.scope.kind == .function&&env.kindOf n == some .cell) then (n,PQ.cell) else (n,k)).lookup x=some .cell
 | [],_,h,_=>by cases h
 | (n,k)::r,x,h,hc=>by
  have ih:=@cJ env hf r x
  grind
theorem df {env:Env}:∀{names:List (Str × PQ)}{x:Str}{k:PQ},(names.map fun(n,k)=>if (k == QG&&env.scope.kind == .function&&env.kindOf n == some .cell) then (n,PQ.cell) else (n,k)).lookup x=some k →
  names.lookup x=some k\/(names.lookup x=some .free/\k=.cell)
 | [],_,_,h=>by cases h
 | (n,j)::r,x,k,h=>by
  have ih:=@df env r x k
  grind
noncomputable def uO (ix:List Nat) (σ:St):St:=none::ix.map fun i=>(σ[i]?).join
abbrev Kg (J:It) (tt:TT) (te:TE) (σ':V->St) (acc:Addr) (H1:Hp) (Q:VK):Prop:=
 ∃W:Nat->Nat->List V->Hp->Prop,(∃m,W 0 m [] (upd H1 acc (.lst [])))/\∀i m ys H,W i m ys H →
  (J.stop i H/\Q (.ref acc) H)\/(J.go i H/\∀x H',J.yld i H x H'->tt (σ' x) H' fun b H2=>if b=true then te (σ' x) H2 fun y H3=>
    H3 acc=some (.lst ys)/\ys.length<sizeLine/\∃m',m'<m/\W (i+1) m' (ys++[y]) (upd H3 acc (.lst (ys++[y])))
   else ∃m',m'<m/\W (i+1) m' ys H2)
noncomputable def FR (wi:TI) (ix:List Nat) (tt:TT) (te:TE):TE:=fun σ H Q=>wi σ H fun J H1=>∀acc,H1 acc=none->Kg J tt te (fun x=>(uO ix σ).set 0 (some x)) acc H1 Q
def HOk.sameBut (x:HOk P w H h) (hn:H C=none) (k:∀b u,b≠C->h.get? b=some u->h'.get? b=some u):HOk P w H h':=fun b u e=>by
 have nC:∀b u,H b=some u->b≠C:=fun b u e z=>by simp_all
 refine(x b u e).iy (fun c v hc q=>k c v ?_ q) (fun _ q=>q) fun _ _ q=>q
 grind
section
variable {X:Cx}
def t9:aV X (.builtin "isinstance") (fun vs H Q=>∃x t n b,vs=[x,.ty n]/\iW X.K H x t/\Pd X.K t (.type n)=some b/\Q (.bl b) H):=by
 intro pins s σ H xs us Q I r h
 obtain⟨x,t,n,b,rfl,ty,e,q⟩:=h
 obtain⟨u,w',rfl,r1,r2⟩:=vals2 r
 cases r2
 exact zg I r1 ty e fun tk=>⟨.bl b,H,I.tok tk,rfl,q⟩
def oj:aV X (.builtin "len") (fun vs H Q=>∃p S n,vs=[.ref p]/\H p=some (.set S n)/\Q (.int n) H):=by
 intro pins s σ H xs us Q I r h
 obtain⟨p,S,n,rfl,hH,q⟩:=h
 obtain⟨u,rfl,rx⟩:=vals1 r
 cases rx
 obtain⟨o,es,ep,tb,ho,hex,hd,hel,hmem,hsz,hfit,rfl⟩:=(show s.heap.SetOf (intKind X.prog X.w) p S n from I.hok p _ hH)
 have hb:(es.size:Int)<2 ^ 63:=by unfold scanBound at hsz;omega
 exact PySem.call_len_set ho hex hd hfit hb ⟨.int es.size,H,I.tok _,⟨_,rfl⟩,q⟩
def iA {lo hi:Option Int} (ht:IsTup s.heap t items) (hs:s.heap.IsSliceOf sl vl vu .none) (pl:TF vl lo) (pu:TF vu hi)
  (h1:HT.sIx items.size 0 lo=0) (h2:HT.sIx items.size items.size hi=items.size) (h:Q (.ref t) s):wpAny (model prog w) A (getItem (.ref t) (.ref sl)) Q E s:=by
 obtain⟨os,hos,hcs,hds⟩:=id hs
 have hTs:s.TypeIs (.ref sl) "slice" := ⟨os,hos,hcs⟩
 unfold getItem
 try with_reducible refine N9 ?_
 refine gV (wpAny_sequenceKey ht.typeIs (by decide) ?_)
 refine gV (OH ht.typeIs OB (OA OB ht.typeIs entry_tuple_getitem ?_ (args_tuple_getitem _ _)))
 show wpAny _ _ (Ow.Tuple.tupleItemsOf (.ref t) >>= _) _ _ s
 refine gV (tupleItemsOf_ ht (gV (QZ hTs ?_)))
 refine gV (HT.fG hs pl pu ?_)
 rw[h1,h2]
 show wpAny _ _ (if (((0:Nat):Int) == 0&&(1:Int) == 1&&(items.size - 0) == items.size)=true then _ else _) _ _ s
 rw[if_pos (by simp)]
 refine gV (gV (QZ ht.typeIs (NG ?_)))
 refine gV (Tf ?_)
 first
  | exact NG ⟨_,rfl,NG h⟩
  | exact gV (NG (NG ⟨_,rfl,NG h⟩))
def KO (K:ND):V->Option Int->Option Int->Hp->VK->Prop:=fun x lo hi H Q=>∃a xs,x=.ref a/\SqT K H a xs/\HT.sIx xs.length 0 lo=0/\HT.sIx xs.length xs.length hi=xs.length/\Q (.ref a) H
def Fd:SlR X (KO X.K):=by
 intro pins s σ H x v vl vu lo hi sl Q I rx hs pl pu h
 obtain⟨a,xs,rfl,hx,h1,h2,q⟩:=h
 cases rx
 obtain⟨its,r,ht,hz⟩:=I.tuple hx
 have hlen:its.toArray.size=xs.length:=by rw[OW];exact r.length.symm
 refine⟨"tuple", _,OB.lookup,ht.typeIs,?_⟩
 exact iA ht hs pl pu (by simp_all) (by simp_all) ⟨.ref a,H,I,rfl,q⟩
noncomputable def C1 (K:ND):R2:=fun x y H Q=>∃a b ys,x=.ref a/\y=.ref b/\SqT K H a []/\SqT K H b ys/\Q (.ref b) H
def Ay:OpR X (binaryOp .Add) (C1 X.K):=by
 intro pins s σ H x y v u Q I rx ry h
 obtain⟨a,b,ys,rfl,rfl,ha,hb,q⟩:=h
 cases rx
 cases ry
 obtain⟨its,r1,p1,_⟩:=I.tuple ha
 obtain⟨its2,r2,p2,_⟩:=I.tuple hb
 cases r1
 obtain⟨⟨cls,dd,data,sl⟩,ho,hc,n,hd⟩:=id p1
 obtain⟨⟨cls2,dd2,data2,sl2⟩,ho2,hc2,n2,hd2⟩:=id p2
 subst hc hd hc2 hd2
 exact TV ⟨_,ho,rfl⟩ ⟨_,ho2,rfl⟩ SQ TB Rq Rb (QY _ _)
  (tuple_addW0 a b _ _ n n2 dd dd2 sl sl2 (by simp)) ⟨ho,ho2,⟨.ref b,H,I,rfl,q⟩⟩
end
open AutoSeq1 (wpAny_loadPart')
noncomputable def rJ (a:Addr) (lo hi st:Int):HO:=.ext fun h=>∃t u v,h.get? a=some { cls:=.type "range", data:=.fields #[.int lo t,.int hi u,.int st v] }
noncomputable def t8 (lo st:Int) (n:Nat):List Int:=(NQ n).map fun(i:Nat)=>lo+(i:Int)*st
def uu (lo st:Int) (n:Nat):(t8 lo st n).length=n:=by simp[t8]
def vY {lo st:Int} (h:Us (fun i v=>∃t,v=.int (lo+i*st) t) acc n):Vals ((t8 lo st n).map V.int) acc.toList:=by
 obtain⟨hs,hv⟩:=h
 have key:∀(l:List NI) (k:Nat),(∀j v,l[j]?=some v->∃t,v=Qw (lo+((k+j:Nat):Int)*st) t)->Vals (((SH k l.length).map fun(i:Nat)=>lo+(i:Int)*st).map V.int) l:=by
  intro l
  induction l with
  | nil=>intro k _;exact .nil
  | cons a r ih=>
   intro k hk
   refine .cons ?_ (ih (k+1) fun j v e=>?_)
   ·obtain⟨t,q⟩:=hk 0 a rfl
    exact⟨t,by omega⟩
   ·obtain⟨t,q⟩:=hk (j+1) v (by simp_all)
    grind
 have:=key acc.toList 0 fun j v e=>by
  simp_all
 unfold t8
 rw[Qa,<- hs]
 omega
section
variable {X:Cx}
def Inv.rng {pins:List (Addr × Obj)}{σ:St}{H:Hp}{s:NM}{lo hi st:Int}{t u v:Tok}{tk:Nat} (I:Inv X pins σ H s) :
  Inv X pins σ (upd H s.heap.objs.size (rJ s.heap.objs.size lo hi st)) { s with heap:=s.heap.push { cls:=.type "range", data:=.fields #[.int lo t,.int hi u,.int st v] },toks:=tk }:=by
 refine I.laid (fun b o e=>NF _ e) (NK _) ?_
 refine⟨⟨t,u,v,NN _ rfl⟩,⟨_,NN _ rfl⟩,fun h1 h2 ⟨a,b,c,e⟩ k=>⟨a,b,c,k _ e⟩⟩
def Aj:aV X (.type "range") (fun vs H Q=>∃j,vs=[.int j]/\∀p,H p=none->Q (.ref p) (upd H p (rJ p 0 j 1))):=by
 intro pins s σ H xs us Q I r h
 obtain⟨j,rfl,q⟩:=h
 obtain⟨u,rfl,t,rfl⟩:=vals1 r
 exact call_range_1 ⟨.ref _,_,I.rng,rfl,q _ (I.hok.fresh (NK _))⟩
def zR:aV X (.type "range") (fun vs H Q=>∃i j,vs=[.int i,.int j]/\∀p,H p=none->Q (.ref p) (upd H p (rJ p i j 1))):=by
 intro pins s σ H xs us Q I r h
 obtain⟨i,j,rfl,q⟩:=h
 obtain⟨u,w',rfl,⟨t,rfl⟩,⟨t',rfl⟩⟩:=vals2 r
 exact call_range_2 ⟨.ref _,_,I.rng,rfl,q _ (I.hok.fresh (NK _))⟩
structure xI (lo hi st) (n:Nat):Prop where
 sm:Ow.Range.small lo hi st=true
 sz:Ow.Range.rangeSize lo hi st=n
 le:n<=2 ^ 20
def Inv.JQ {σ:St}{lo hi st:Int} (I:Inv X pins σ H s) (h:H p=some (rJ p lo hi st)):∃t u v,IsRange s.heap p lo hi st t u v:=by
 obtain⟨⟨t,u,v,e⟩,_⟩:=I.hok p _ h
 grind
def pq (hc:X.calm=true):aV X (.type "list") (fun vs H Q=>∃p lo hi st n,vs=[.ref p]/\H p=some (rJ p lo hi st)/\xI lo hi st n/\∀l,H l=none->Q (.ref l) (upd H l (.lst ((t8 lo st n).map V.int)))):=by
 intro pins s σ H xs us Q I r h
 obtain⟨p,lo,hi,st,n,rfl,hp,ok,q⟩:=h
 obtain⟨u,rfl,rx⟩:=vals1 r
 cases rx
 obtain⟨t,u,v,hr⟩:=I.JQ hp
 have hn:=ok.le
 refine call_list_range (I.ok.hd hc) hr ok.sm ok.sz (by omega) fun h' tk acc c kp e hi=>?_
 have hv:=vY hi
 refine⟨.ref s.heap.objs.size,_,I.laid kp (NK _) (show a_ X.prog X.w _ h' _ (.lst _) from⟨?_,acc.toList,c,hv,by omega⟩),rfl,q _ (I.hok.fresh (NK _))⟩
 rw[NY,uu,OY];omega
end
section
variable {X:Cx}
def AQ (h1:-1000000<=a) (h2:a<=1000000) (h3:-1000000<=b) (h4:b<=1000000) (h:b - a<=1000000):xI a b 1 (b - a).toNat:=
 ⟨small_one (by omega) (by omega) (by omega) (by omega),by rw[rangeSize_one];omega,by omega⟩
inductive RdD (K) (H):V->RT->Prop
 | non:RdD K H .non .none
 | bl (b):RdD K H (.bl b) (.bool b)
 | int (i):RdD K H (.int i) (.int i)
 | str (x):RdD K H (.str x) (.str x)
 | tup (h:SqT K H a xs) (hl:xs.length=ds.length) (hx:∀(i:Nat) x d,xs[i]?=some x->ds[i]?=some d->RdD K H x d):RdD K H (.ref a) (.tuple ds)
 | lst (h:SqL K H a xs) (hl:xs.length=ds.length) (hx:∀(i:Nat) x d,xs[i]?=some x->ds[i]?=some d->RdD K H x d):RdD K H (.ref a) (.list ds)
theorem gB {h:Heap}:∀{us:List NI}{ds:List RT},us.length=ds.length->(∀(i:Nat) u d,us[i]?=some u->ds[i]?=some d->∃as,Reads h u d as)->∃as,ReadsAll h us ds as
 | [],[],_,_=>⟨_,.nil⟩
 | [],_::_,hl,_=>by grind
 | _::_,[],hl,_=>by grind
 | u::us,d::ds,hl,hx=>by
  obtain⟨as,h1⟩:=hx 0 u d rfl rfl
  obtain⟨bs,h2⟩:=gB (by simpa using hl) fun i u d e1 e2=>hx (i+1) u d (by simp_all) (by simp_all)
  exact⟨_,.cons h1 h2⟩
def Vals.get' {i:Nat} (r:Vals xs us) (h:us[i]?=some u):∃x,xs[i]?=some x/\RelV x u:=by
 have hl:=r.length
 have hi:i<xs.length:=by grind
 obtain⟨u',e1,e2⟩:=r.get (N0 hi)
 grind
def Inv.reads {σ:St} (I:Inv X pins σ H s) (r:RdD X.K H x d):∀u,RelV x u->∃as,Reads s.heap u d as:=by
 induction r with
 | non=>intro u ru;cases (show u=OS from ru);exact⟨_,.none⟩
 | bl b=>intro u ru;cases (show u=RY b from ru);exact⟨_,.bool b⟩
 | int i=>intro u ru;obtain⟨t,q⟩:=(show ∃t,u=Qw i t from ru);cases q;exact⟨_,.int i t⟩
 | str y=>intro u ru;obtain⟨t,q⟩:=(show ∃t,u=Tx y t from ru);cases q;exact⟨_,.str y t⟩
 | @tup a xs ds h hl hx ih=>
  intro u ru
  cases (show u=Ob a from ru)
  obtain⟨its,rv,p,hz⟩:=I.tuple h
  obtain⟨o,ho,hc,n,hd⟩:=p
  obtain⟨as,ra⟩:=gB (by rw[<- rv.length,hl]) fun i u d e1 e2=>by
   obtain⟨y,e3,ry⟩:=rv.get' e1
   exact ih i y d e3 e2 u ry
  exact⟨_,.tuple ho hc hd (by omega)⟩
 | @lst a xs ds h hl hx ih=>
  intro u ru
  cases (show u=Ob a from ru)
  obtain⟨its,rv,p,hz⟩:=I.list h
  obtain⟨o,ho,hc,n,hd⟩:=p.isList
  obtain⟨as,ra⟩:=gB (by rw[<- rv.length,hl]) fun i u d e1 e2=>by
   obtain⟨y,e3,ry⟩:=rv.get' e1
   exact ih i y d e3 e2 u ry
  exact⟨_,.list ho hc hd (by omega)⟩
def Af (hg:X.A.guards=some []) (hu:X.A.units+64<cLine):aV X (.builtin "repr") (fun vs H Q=>∃p d,vs=[.ref p]/\RdD X.K H (.ref p) d/\d.showable=true/\d.hasDict=false/\d.depth<=60/\d.shown.length<=sizeLine/\Q (.str d.shown) H):=by
 intro pins s σ H xs us Q I r h
 obtain⟨p,d,rfl,rd,hs,hd,hdp,hz,q⟩:=h
 obtain⟨u,rfl,rx⟩:=vals1 r
 cases rx
 obtain⟨as,ra⟩:=I.reads rd (.ref p) rfl
 exact repr_of_reads' ra hs (RT.noDict_hsm hd) hg (by omega) (fun _ _ e=>e) (fun h' u tk kp=>⟨.str d.shown,H,I.kept kp,⟨_,rfl⟩,q⟩) hz
def wd:aV X (.builtin "repr") (fun vs H Q=>∃i,vs=[.int i]/\i.natAbs.log2<1920/\Q (.str (toString i)) H):=by
 intro pins s σ H xs us Q I r h
 obtain⟨i,rfl,hi,q⟩:=h
 obtain⟨u,rfl,t,rfl⟩:=vals1 r
 exact PySem.P.repr_of_int hi ⟨.str (toString i),H,I.tok _,⟨_,rfl⟩,q⟩
end
def Inv.HJ {σ:St} (I:Inv X (pins++[(C,o)]) σ H s) (cC:∀x c,X.env.cells.lookup x=some c->c≠C) (hC:X.ax.heap.objs.size<=C) (pC:∀p∈X.pn++pins,p.1≠C) (hs:PC C s.heap h'):Inv X pins σ H { s with heap:=h' }:=by
 have kb:∀b u,b≠C->s.heap.get? b=some u->h'.get? b=some u:=fun b u hb z=>hs.extBut b u hb z
 obtain⟨q0,q1,q2,q3,q4⟩:=I.pin (C,o) (NP _ (NP _ (N_.mpr rfl)))
 have J:Inv X pins σ H s:=I.jD fun p hp=>I.pin p (NP _ (Pz _ hp))
 refine J.qo (s':={ s with heap:=h' }) (ch:=[C]) rfl ⟨fun b u z n a c=>kb b u (fun e=>c (by simp_all)) z,fun b u z n a c=>⟨u.slots,kb b _ (fun e=>c (by simp_all)) z⟩,fun b u z n c=>n,fun b u z c=>⟨u,kb b u (fun e=>c (by simp_all)) z⟩,fun b xs z=>z,fun b ob u z=>z,fun b ps z=>⟨#[],by simp_all⟩⟩ (J.hok.sameBut q1 kb) J.bare fun b hb=>?_
 grind
section
variable {prog:NT}{w:Oe}{A:Oa}{E:NI->NM->Prop}{s:NM}
def v9 (hi:s.heap.IsTupleIter it t i) (ht:s.heap.IsTuple t its) (hx:its[i]?=some x) (hQ:∀h',h'.IsTupleIter it t (i+1)->PC it s.heap h'->Q x { s with heap:=h' }) :
  wpAny (model prog w) A (Ow.SmallTypes.nextOf (.ref it)) Q E s:=by
 obtain⟨oi,h1,h2,h3⟩:=id hi
 obtain⟨ot,k1,_,nt,k2⟩:=ht
 refine gV (OH hi.typeIs PY (OA PY hi.typeIs F.entry_tuple_iterator_next ?_ (F.args_tuple_iterator_next_1 _)))
 refine gV (m:=field (.ref it) 0) (P7 h1 h3 rfl ?_)
 show wpAny _ _ (if (Ob t == OS)=true then _ else field (.ref it) 1 >>= _) _ _ s
 refine gV (P7 h1 h3 rfl (gV (Sg k1 k2 ?_)))
 simp only[Rx,hx]
 exact gV (Qq h1 h3 (by simp) (NG ⟨x,rfl,NG (hQ _ ⟨_,Oy _ h1 (O9 (OE h3 _)),(Sr ..).trans h2,by rw[OE h3];rfl⟩ (Pp ..))⟩))
def pF (hh:A.handled=none) (hi:s.heap.IsTupleIter it t i) (ht:s.heap.IsTuple t its) (hx:its[i]?=none)
  (hE:∀h' e,T9 it s.heap h'->(∃o,h'.get? e=some o/\o.cls=.type "StopIteration")->E (.ref e) { s with heap:=h' }):wpAny (model prog w) A (Ow.SmallTypes.nextOf (.ref it)) Q E s:=by
 obtain⟨oi,h1,h2,h3⟩:=id hi
 obtain⟨ot,k1,_,nt,k2⟩:=ht
 refine gV (OH hi.typeIs PY (OA PY hi.typeIs F.entry_tuple_iterator_next ?_ (F.args_tuple_iterator_next_1 _)))
 refine gV (m:=field (.ref it) 0) (P7 h1 h3 rfl ?_)
 show wpAny _ _ (if (Ob t == OS)=true then _ else field (.ref it) 1 >>= _) _ _ s
 refine gV (P7 h1 h3 rfl (gV (Sg k1 k2 ?_)))
 simp only[Rx,hx]
 refine gV (Tf (gV (Qq h1 h3 (by simp) (gV ?_))))
 refine gV (Of (gV (SI (by rfl) (Of ?_ (by size_fits)))) (by size_fits))
 refine gV (TH ?_)
 rw[show A.in1.handled=none from hh]
 exact gV (NG (T_ (hE _ _ (((Pp ..).extBut.push _).push _) ⟨_,NN _ rfl,rfl⟩)))
end
def Draws.tup {prog:NT}{w:Oe}{A:Oa} (hh:A.handled=none) (it t:Addr) (hne:t≠it) (its:Array NI):Draws prog w A it [it,t] its.size (fun i v=>its[i]?=some v) (fun i h=>h.IsTupleIter it t i/\h.IsTuple t its) where
 live:=fun _ _ z=>let ⟨o,ho,_⟩:=z.1;⟨o,ho⟩
 frame:=fun _ _ _ z hk=>⟨z.1.at fun o e=>hk it (by simp) o e,z.2.at fun o e=>hk t (by simp) o e⟩
 item:=fun i s Q E hi z hQ=>v9 z.1 z.2 (x:=its[i]) (by simp[hi]) fun h' a b=>hQ _ h' s.toks (by simp[hi]) ⟨a,z.2.extBut b.extBut hne⟩ b
 done:=fun s Q E z hE=>pF hh z.1 z.2 (by simp) hE
section
open AutoSeq1 (wpAny_loadPart')
def wq (t) (its) (n) (dct) (sl) :
  Meets (Ow.«enumerate.__new__» ⟨[.type "enumerate", .ref t],[]⟩) (fun _ R s=>s.heap.get? t=some { cls:=.type "tuple", dict:=dct,data:=.seq its n,slots:=sl } ∧
   R (.ok (.ret (.ref (s.heap.push { cls:=.type "tuple_iterator", data:=.fields #[.ref t,.int 0 0] }).objs.size))) { s with heap:=(s.heap.push { cls:=.type "tuple_iterator", data:=.fields #[.ref t,.int 0 0] }).push { cls:=.type "enumerate", data:=.fields #[.none,.bool false,.ref s.heap.objs.size,rawInt 0,.none,.none] } }):=
 .of_wp fun prog w A R s z=>by
  obtain⟨hp,gs,dr,tk,os⟩:=s;obtain⟨ht,z⟩:=z
  have su:=sub_enumerate
  have hT:Heap.IsTuple (NM.heap ⟨hp,gs,dr,tk,os⟩) t its:=⟨_,ht,rfl,n,rfl⟩
  wp_walk using S4 ht
  refine wpAny_stack_any fun st=>NG ?_
  split
  ·rename_i c _ _ _ _ _
   cases (c == Si "enumerate")<;>(wp_walk using S4 ht,Rf hT;exact⟨_,rfl,z⟩)
  ·(wp_walk using S4 ht,Rf hT);exact⟨_,rfl,z⟩
end
section
variable {prog:NT}{w:Oe}{A:Oa}{E:NI->NM->Prop}{s:NM}
def Kp (hT:s.heap.IsTuple t its)
  (q:∀h',Uv h' (s.heap.objs.size+1) s.heap.objs.size 0 .none->h'.IsTupleIter s.heap.objs.size t 0->h'.objs.size=s.heap.objs.size+2->(∀b o,s.heap.get? b=some o->h'.get? b=some o)->Q (.ref (s.heap.objs.size+1)) { s with heap:=h' }) :
  wpAny (model prog w) A (call (.type "enumerate") [.ref t]) Q E s:=by
 obtain⟨⟨c,dct,dt,sl⟩,ht,hc,n,hd⟩:=hT
 subst hc hd
 refine callType_new F.called_enumerate (by decide) (F.typeCall_enumerate_1 _) (F.newCall_enumerate_1 _) (fun obj=>F.args_object_init_2 obj _) F.entry_enumerate_new (wq t its n dct sl) ⟨ht,?_⟩
 have hz:(s.heap.push { cls:=.type "tuple_iterator", data:=.fields #[.ref t,.int 0 0] }).objs.size=s.heap.objs.size+1:=Heap.size_push ..
 rw[hz]
 have he:Uv ((s.heap.push { cls:=.type "tuple_iterator", data:=.fields #[.ref t,.int 0 0] }).push { cls:=.type "enumerate", data:=.fields #[.none,.bool false,.ref s.heap.objs.size,rawInt 0,.none,.none] }) (s.heap.objs.size+1) s.heap.objs.size 0 .none:=by
  have y:=NN (s.heap.push { cls:=.type "tuple_iterator", data:=.fields #[.ref t,.int 0 0] }) (o:={ cls:=.type "enumerate", data:=.fields #[.none,.bool false,.ref s.heap.objs.size,rawInt 0,.none,.none] }) rfl
  grind
 exact⟨⟨_,he,rfl⟩,q _ he ⟨_,NF _ (NN _ rfl),rfl,rfl⟩ (by simp) fun b o x=>NF _ (NF _ x)⟩
end
def Inv.yielded {σ:St}{fp:List Addr}{T:Addr} (I:Inv X pins σ H s) (hf:∀b∈fp,lP X pins H b) (k:∀b u,b∉fp->s.heap.get? b=some u->h'.get? b=some u)
  (hT:s.heap.objs.size<=T) (new:a_ X.prog X.w (upd H T o) h' T o):Inv X pins σ (upd H T o) { s with heap:=h',toks:=t' }:=by
 have nT:∀b u,s.heap.get? b=some u->b≠T:=fun b u e z=>absurd (NJ e) (by simp_all)
 have nH:∀b u,H b=some u->b≠T:=fun b u e z=>absurd (I.hok.lt e) (by simp_all)
 have nf:∀b u,H b=some u->b∉fp:=fun b u e z=>by rw[(hf b z).1] at e;cases e
 refine I.qo (s':={ s with heap:=h',toks:=t' }) rfl ⟨fun b u e n _ c=>k b u c e,fun b u e n _ c=>⟨u.slots,k b u c e⟩,fun b u e n c=>by rw[aw (nT b u e)];exact n,fun b u e c=>⟨u,k b u c e⟩,fun b xs e=>by rw[aw (nH b _ e)];exact e,fun b ob u e=>by rw[aw (nH b _ e)];exact e,fun b ps e=>⟨#[],by rw[aw (nH b _ e),e];simp⟩⟩ (fun b u e=>?_) I.bare (fun b hb=>?_)
 ·by_cases hb:b=T
  ·subst hb
   rw[aL] at e
   simp_all
  ·rw[aw hb] at e
   refine(I.hok b u e).iy (fun c v hc q=>k c v ?_ q) (fun c q=>by rw[aw (nH c _ q)];exact q) fun c xs q=>by rw[aw (nH c _ q)];exact q
   grind
 ·obtain⟨_,g1,_,g3,g4,g5⟩:=hf b hb
  grind
def Inv.xh {σ:St}{fp:List Addr} (I:Inv X pins σ H s) (hf:∀b∈fp,lP X pins H b) (k:∀b u,b∉fp->s.heap.get? b=some u->h'.get? b=some u):Inv X pins σ H { s with heap:=h',toks:=t' }:=by
 have nf:∀b u,H b=some u->b∉fp:=fun b u e z=>by rw[(hf b z).1] at e;cases e
 refine I.qo (s':={ s with heap:=h',toks:=t' }) rfl ⟨fun b u e n _ c=>k b u c e,fun b u e n _ c=>⟨u.slots,k b u c e⟩,fun b u e n c=>n,fun b u e c=>⟨u,k b u c e⟩,fun b xs e=>e,fun b ob u e=>e,fun b ps e=>⟨#[],by grind⟩⟩ (fun b u e=>?_) I.bare (fun b hb=>?_)
 ·refine(I.hok b u e).iy (fun c v hc q=>k c v ?_ q) (fun c q=>q) fun c xs q=>q
  grind
 ·obtain⟨_,g1,_,g3,g4,g5⟩:=hf b hb
  grind
noncomputable def Iel (K:ND) (a:Addr):It:=
 ⟨fun i H=>∃xs x,SqL K H a xs/\xs[i]?=some x,fun i H x H'=>∃p v,x=.ref p/\H p=none/\(∀xs,SqL K H a xs->xs[i]?=some v)/\H'=upd H p (.tup [.int i,v]),fun i H=>∃xs,SqL K H a xs/\xs.length<=i⟩
noncomputable def Iet (K:ND) (a:Addr):It:=
 ⟨fun i H=>∃xs x,SqT K H a xs/\xs[i]?=some x,fun i H x H'=>∃p v,x=.ref p/\H p=none/\(∀xs,SqT K H a xs->xs[i]?=some v)/\H'=upd H p (.tup [.int i,v]),fun i H=>∃xs,SqT K H a xs/\xs.length<=i⟩
def nz {St:Nat->Heap->Prop} (D:Draws prog w A.in1 it fp n P St) (e) (hei:e≠it) (hef:e∉fp) (i) (s:NM) (Q) (E) (hi:i<n)
  (hst:(∃old,Uv s.heap e it i old)/\St i s.heap)
  (hQ:∀T vals h' tk,(∃t x,P i x/\vals = #[.int i t,x])->s.heap.objs.size<=T->mQ h' T vals->((∃x,IsEnumOut h' e it ((i:Int)+1) x T)/\St (i+1) h'/\T≠e/\T≠it)->(∀b o,b∉[e,it]->s.heap.get? b=some o->h'.get? b=some o)->Q (some (.ref T)) { s with heap:=h',toks:=tk }) :
  wpAny (model prog w) A (pyNext (.ref e)) Q E s:=by
 obtain⟨⟨old,he⟩,hs⟩:=hst
 refine wpAny_pyNext_enum_itemD D he hs hi hei hef fun x h1 tk hP ho hs1 hT _ hk=>?_
 refine hQ s.heap.objs.size #[.int i tk,x] h1 (tk+1) ⟨tk,x,hP,rfl⟩ (NK _) ⟨_,hT,⟨rfl,_,rfl⟩,rfl⟩ ⟨⟨_,ho⟩,hs1,Pu (NJ he),?_⟩ fun b o hb y=>hk b o (fun z=>hb (by simp[z])) (fun z=>hb (by simp[z])) y
 obtain⟨_,y⟩:=D.live _ _ hs
 exact Pu (NJ y)
def vn {P:NT}{w:Oe}{K:ND}{elts:List Expr}{k:Nat}{pos:Pos}{a it e:Addr} (hei:e≠it):Turn P w K (.Tuple elts k pos) (Iel K a) [e,it] e (fun i h=>(∃old,Uv h e it i old)/\h.IsListIter it a i) where
 mem:=by simp
 obj:=fun i h z b hb=>by
  obtain⟨⟨old,z1⟩,z2⟩:=z
  rcases NV.mp hb with rfl | hb
  ·simp_all
  ·rw[N_.mp hb]
   obtain⟨o,q,_,d⟩:=z2
   simp_all
 keep:=fun i h h' z kk=>⟨let ⟨old,z1⟩:=z.1;⟨old,kk e (by simp) _ z1⟩,z.2.at fun o q=>kk it (by simp) o q⟩
 item:=by
  intro X hP hw hK hc i pins s σ H E I hf st hg
  subst hP hw hK
  obtain⟨xs,x,hq,hx⟩:=hg
  obtain⟨its,rv,p,hz⟩:=I.list hq
  obtain⟨u,hu,ru⟩:=rv.get hx
  have hl:=rv.length
  have plt:a<s.heap.objs.size:=by obtain⟨o,q,_⟩:=p.isList;exact NJ q
  have hai:a≠it/\a≠e:=by
   obtain⟨oa,qa,ca,_⟩:=p.isList
   obtain⟨⟨old,z1⟩,oi,qi,ci,_⟩:=st
   grind
  have DD:=(Draws.list (prog:=X.prog) (w:=X.w) (A:=X.A.in1) (I.ok.hd hc) it a hai.1 its.toArray)
  have hef0:e∉[it,a]:=by grind
  have W:=WalksT.enumerateD (prog:=X.prog) (w:=X.w) (A:=X.A) DD e hei hef0 (by simp)
  refine nz DD e hei hef0 i s _ _ (by grind) ⟨st.1,st.2,p.isList⟩ fun T vals h1 tk hv hT ht hm k1=>?_
  obtain⟨t,v,hv1,hv2⟩:=hv
  have ev:v=u:=by
   simp_all
  subst ev
  refine⟨.ref T,rfl,W.go elts k pos i T { s with heap:=h1,toks:=tk } _ _ hm fun h2 st2 k2=>?_⟩
  have kk:∀b o,b∉[e,it]->s.heap.get? b=some o->h2.get? b=some o:=fun b o hb q=>k2 b o hb (k1 b o hb q)
  have hT2:mQ h2 T vals:=by
   obtain⟨o,q,c⟩:=ht
   exact⟨o,k2 T o (fun z=>W.apart _ _ _ hm z) q,c⟩
  have hn:H T=none:=I.hok.fresh hT
  have nTf:∀b∈[e,it],b≠T:=fun b hb z=>by
   simp_all
  refine⟨.ref T,upd H T (.tup [.int i,x]),I.yielded (t':=tk) hf kk hT ⟨by show 2<=sizeLine;decide,[.int i t,v],.cons ⟨t,rfl⟩ (.cons ru .nil),?_⟩,rfl,⟨T,x,rfl,hn,fun ys hy=>by rw[I.mZ hy hq];exact hx,rfl⟩,⟨st2.1,st2.2.1⟩,fun b hb=>by rw[aw (nTf b hb)];exact(hf b hb).1⟩
  simp_all
 done:=by
  intro X hP hw hK hc i pins s σ H E I hf st hg
  subst hP hw hK
  obtain⟨xs,hq,hx⟩:=hg
  obtain⟨its,rv,p,hz⟩:=I.list hq
  obtain⟨⟨old,z1⟩,z2⟩:=st
  have hl:=rv.length
  exact wpAny_pyNext_enum_end (I.ok.hd hc) z1 z2 p.isList (Qr (by simp_all)) fun h' eb=>⟨rfl,I.xh (t':=s.toks) hf fun b u hb q=>eb b u (fun z=>hb (by simp[z])) q⟩
 self:=fun A i s Q E z q=>by
  obtain⟨⟨old,z1⟩,z2⟩:=z
  exact Ry z1 q
def wW {P:NT}{w:Oe}{K:ND}{elts:List Expr}{k:Nat}{pos:Pos}{a it e:Addr} (hei:e≠it):Turn P w K (.Tuple elts k pos) (Iet K a) [e,it] e (fun i h=>(∃old,Uv h e it i old)/\h.IsTupleIter it a i) where
 mem:=by simp
 obj:=fun i h z b hb=>by
  obtain⟨⟨old,z1⟩,z2⟩:=z
  rcases NV.mp hb with rfl | hb
  ·simp_all
  ·rw[N_.mp hb]
   obtain⟨o,q,_,d⟩:=z2
   simp_all
 keep:=fun i h h' z kk=>⟨let ⟨old,z1⟩:=z.1;⟨old,kk e (by simp) _ z1⟩,z.2.at fun o q=>kk it (by simp) o q⟩
 item:=by
  intro X hP hw hK hc i pins s σ H E I hf st hg
  subst hP hw hK
  obtain⟨xs,x,hq,hx⟩:=hg
  obtain⟨its,rv,p,hz⟩:=I.tuple hq
  obtain⟨u,hu,ru⟩:=rv.get hx
  have hl:=rv.length
  have plt:a<s.heap.objs.size:=by obtain⟨o,q,_⟩:=(show s.heap.IsTuple a its.toArray from p);exact NJ q
  have hai:a≠it/\a≠e:=by
   obtain⟨oa,qa,ca,_⟩:=(show s.heap.IsTuple a its.toArray from p)
   obtain⟨⟨old,z1⟩,oi,qi,ci,_⟩:=st
   grind
  have DD:=(Draws.tup (prog:=X.prog) (w:=X.w) (A:=X.A.in1) (I.ok.hd hc) it a hai.1 its.toArray)
  have hef0:e∉[it,a]:=by grind
  have W:=WalksT.enumerateD (prog:=X.prog) (w:=X.w) (A:=X.A) DD e hei hef0 (by simp)
  refine nz DD e hei hef0 i s _ _ (by grind) ⟨st.1,st.2,(show s.heap.IsTuple a its.toArray from p)⟩ fun T vals h1 tk hv hT ht hm k1=>?_
  obtain⟨t,v,hv1,hv2⟩:=hv
  have ev:v=u:=by
   simp_all
  subst ev
  refine⟨.ref T,rfl,W.go elts k pos i T { s with heap:=h1,toks:=tk } _ _ hm fun h2 st2 k2=>?_⟩
  have kk:∀b o,b∉[e,it]->s.heap.get? b=some o->h2.get? b=some o:=fun b o hb q=>k2 b o hb (k1 b o hb q)
  have hT2:mQ h2 T vals:=by
   obtain⟨o,q,c⟩:=ht
   exact⟨o,k2 T o (fun z=>W.apart _ _ _ hm z) q,c⟩
  have hn:H T=none:=I.hok.fresh hT
  have nTf:∀b∈[e,it],b≠T:=fun b hb z=>by
   simp_all
  refine⟨.ref T,upd H T (.tup [.int i,x]),I.yielded (t':=tk) hf kk hT ⟨by show 2<=sizeLine;decide,[.int i t,v],.cons ⟨t,rfl⟩ (.cons ru .nil),?_⟩,rfl,⟨T,x,rfl,hn,fun ys hy=>by rw[I.kL hy hq];exact hx,rfl⟩,⟨st2.1,st2.2.1⟩,fun b hb=>by rw[aw (nTf b hb)];exact(hf b hb).1⟩
  simp_all
 done:=by
  intro X hP hw hK hc i pins s σ H E I hf st hg
  subst hP hw hK
  obtain⟨xs,hq,hx⟩:=hg
  obtain⟨its,rv,p,hz⟩:=I.tuple hq
  obtain⟨⟨old,z1⟩,z2⟩:=st
  have hl:=rv.length
  have pt:s.heap.IsTuple a its.toArray:=p
  have DD:Draws X.prog X.w X.A.in1 it [it,a] i (fun _ _=>True) (fun j h=>j=i/\h.IsTupleIter it a j/\h.IsTuple a its.toArray):={
   live:=fun _ _ z=>let ⟨o,ho,_⟩:=z.2.1;⟨o,ho⟩
   frame:=fun _ _ _ z hk=>⟨z.1,z.2.1.at fun o e=>hk it (by simp) o e,z.2.2.at fun o e=>hk a (by simp) o e⟩
   item:=fun j s Q E hj z hQ=>absurd z.1 (NU hj)
   done:=fun s Q E z hE=>pF (I.ok.hd hc) z.2.1 z.2.2 (Qr (by simp_all)) hE }
  exact wpAny_pyNext_enum_endD DD z1 ⟨rfl,z2,pt⟩ fun h' eb=>⟨rfl,I.xh (t':=s.toks) hf fun b u hb q=>eb b u (fun z=>hb (by simp[z])) q⟩
 self:=fun A i s Q E z q=>by
  obtain⟨⟨old,z1⟩,z2⟩:=z
  exact Ry z1 q
noncomputable def Kw (K:ND) (tl:TE):TI:=fun σ H R=>tl σ H fun x H1=>∃a,x=.ref a/\(((∃xs,SqL K H1 a xs)/\R (Iel K a) H1)\/((∃xs,SqT K H1 a xs)/\R (Iet K a) H1))
def Fg {X:Cx}{elts:List Expr}{kt:Nat}{tp p pos:Pos}{l:Expr}{tl:TE} (hg:Gl X "enumerate") (hm:X.mg "enumerate" = none) (hl:PE X l tl) (hs:starEach [l] X.env=[(false,eval l X.env)]:=by rfl) :
  PI X (.Tuple elts kt tp) (.Call (.Name "enumerate" p) [l] [] pos) (Kw X.K tl):=by
 intro pins s σ H R I h
 have h':FZ tl Jp σ H (fun vs H1=>match vs with
  | [x]=>∃a,x=.ref a/\(((∃xs,SqL X.K H1 a xs)/\R (Iel X.K a) H1)\/((∃xs,SqT X.K H1 a xs)/\R (Iet X.K a) H1))
  | _=>False):=h
 refine Call_ (jY I hg hm PyProof.Rows.boot_enumerate (PL (thn (c4 hl gF hs pos pins s σ H _ I h') fun us s1 ⟨vs,H1,I1,r1,q1⟩=>?_) hs rfl))
 cases r1 with
 | nil=>simp_all
 | cons r rr=>
  cases rr with
  | cons _ _=>simp_all
  | nil=>
   obtain⟨a,rfl,q⟩:=q1
   cases r
   have fp:∀{h':Heap},∀b∈[s1.heap.objs.size+1,s1.heap.objs.size],lP X pins H1 b:=fun{h'} b hb=>by
    have hb':s1.heap.objs.size<=b:=by
     grind
    exact I1.EJ hb' (I1.hok.fresh hb')
   rcases q with⟨⟨xs,hq⟩,q⟩ | ⟨⟨xs,hq⟩,q⟩
   ·obtain⟨its,rv,pl,hz⟩:=I1.list hq
    refine call_enumerate_list pl.isList fun h2 z1 z2 hsz kp=>Ry (s:={ s1 with heap:=h2 }) z1 ?_
    exact⟨s1.heap.objs.size+1,[s1.heap.objs.size+1,s1.heap.objs.size],_,_,H1,rfl,I1.kept kp,vn (Nat.succ_ne_self _),⟨⟨_,z1⟩,z2⟩,fp (h':=h2),q⟩
   ·obtain⟨its,rv,pl,hz⟩:=I1.tuple hq
    refine Kp (show s1.heap.IsTuple a its.toArray from pl) fun h2 z1 z2 hsz kp=>Ry (s:={ s1 with heap:=h2 }) z1 ?_
    exact⟨s1.heap.objs.size+1,[s1.heap.objs.size+1,s1.heap.objs.size],_,_,H1,rfl,I1.kept kp,wW (Nat.succ_ne_self _),⟨⟨_,z1⟩,z2⟩,fp (h':=h2),q⟩
noncomputable def oS (nt:Nat) (ix:List Nat) (σ:St):St:=N1 nt none++ix.map fun i=>(σ[i]?).join
def gv (nt:Nat) (ix:List Nat) (σ σ':St):Prop:=∃ts:St,ts.length=nt/\σ'=ts++ix.map fun i=>(σ[i]?).join
abbrev Hf (J:It) (nt:Nat) (ix:List Nat) (σ:St) (tg:TG) (tt:TT) (te:TE) (acc:Addr) (H1:Hp) (Q:VK):Prop:=
 ∃W:Nat->Nat->List V->Hp->Prop,(∃m,W 0 m [] (upd H1 acc (.lst [])))/\∀i m ys H,W i m ys H →
  (J.stop i H/\Q (.ref acc) H)\/(J.go i H/\∀σ0 x H',gv nt ix σ σ0->J.yld i H x H'->tg x σ0 H' fun σ2 Hn=>gv nt ix σ σ2/\tt σ2 Hn fun b H2=>if b=true then te σ2 H2 fun y H3=>
    H3 acc=some (.lst ys)/\ys.length<sizeLine/\∃m',m'<m/\W (i+1) m' (ys++[y]) (upd H3 acc (.lst (ys++[y])))
   else ∃m',m'<m/\W (i+1) m' ys H2)
noncomputable def rg (wi:TI) (nt:Nat) (ix:List Nat) (tg:TG) (tt:TT) (te:TE):TE:=fun σ H Q=>wi σ H fun J H1=>∀acc,H1 acc=none->Hf J nt ix σ tg tt te acc H1 Q
def qe {X:Cx}{use:Option (NI->Sem Unit)}{Q2:NI->NM->Prop}{pins:List (Addr × Obj)}{s:NM}{σ:St}{H:Hp}{Q:VK}{elt iter tg:Expr}{tn':List Str}{tgr:TG}{ifs:List Expr}{scope osc:R0}{pos:Pos}{wi:TI}{tt:TT}{te:TE} (ix:List Nat) (N':List Str)
  (hxe:X.xe=fun _ _=>False) (hc:X.calm=true) (ho:X.env.scope=osc) (hN:N'=tn'++ix.map fun i=>(X.N[i]?).getD ("" : Str)) (hnd:N'.Nodup)
  (hall:(∀y∈scope.names,y.2=.free->osc.names.lookup y.1=some .cell)/\(∀y∈scope.names,y.2≠.cell)/\scope.kind=.function/\(∀y∈scope.names,y.2=.local->scope.names.lookup y.1=some .local)/\(∀y∈N'.drop tn'.length,scope.names.lookup y=some .free))
  (hi:PI X tg iter wi) (hg:∀cl C ax aD fp,PG (aZ X scope cl C ax aD fp N') tg tgr)
  (ht:∀cl C ax aD fp,PTs (aZ X scope cl C ax aD fp N') ifs tt)
  (he:∀cl C ax aD fp,PE (aZ X scope cl C ax aD fp N') elt te)
  (hs:∀x,foldedSetIterable iter X.env x=pure x) (I:Inv X pins σ H s) (h:rg wi tn'.length ix tgr tt te σ H Q)
  (hfin:∀(acc C:Addr) (H5:Hp) (s5:NM) (o:Obj),Inv X (pins++[(C,o)]) σ H5 s5->(∀x c,X.env.cells.lookup x=some c->c≠C)->X.ax.heap.objs.size<=C->(∀p∈X.pn++pins,p.1≠C)->(∃m,∀h':Heap,h'.get? C=some o->h'.Ns C m)->Q (.ref acc) H5->compPost (model X.prog X.w) X.A X.xe use Q2 (.ref acc) C (.ok .next) s5) :
  wpAny (model X.prog X.w) X.A (comprehension (.ListComp elt [⟨tg,iter,ifs,0⟩] scope pos) scope X.env (firstIterPos [⟨tg,iter,ifs,0⟩] pos) (newList []) false (eval iter X.env) use) Q2 X.xe s:=by
 obtain⟨hfr,hcell,hkind,hnames,hcap⟩:=hall
 subst ho
 have outc:=fun y hy q=>hfr y hy q
 obtain⟨cl,hclos,hcl1,hcl2⟩:=iH fun y hy q=>I.ok.has y.1 (.inl (outc y hy q))
 refine wpAny_comprehension_free rfl hs hclos hkind hnames (thn (hi pins s σ H _ I h) fun v s1 h1=>thn h1 fun itv s2 h2=>?_)
 obtain⟨it,fp,tn,J,H2,e,I2,T,st2,f2,rest⟩:=h2
 subst e
 have hf2:=I2.hok.fresh (NK _)
 obtain⟨W,⟨m0,w0⟩,turn⟩:=rest s2.heap.objs.size hf2
 refine Of ?_
 have I3:=I2.EX (t':=s2.toks) .nil (OI _)
 have keep3:∀b o,s2.heap.get? b=some o->(s2.heap.push { cls:=.type "list", dict:=none,data:=.seq ([]:List NI).toArray }).get? b=some o:=fun b o q=>NF _ q
 have fp3:=T.obj _ _ st2
 have st3:=T.keep _ _ _ st2 fun b _ o q=>keep3 b o q
 have fpn:∀b∈fp,(upd H2 s2.heap.objs.size (HO.lst [])) b=none:=fun b hb=>by
  obtain⟨o,q,_⟩:=fp3 b hb
  rw[aw (NU (NJ q))]
  exact(f2 b hb).1
 revert I3 keep3 st3 fpn w0
 generalize hS3:({ s2 with heap:=s2.heap.push { cls:=.type "list", dict:=none,data:=.seq ([]:List NI).toArray } }:NM)=s3
 generalize hH3:upd H2 s2.heap.objs.size (HO.lst [])=H3
 intro w0 I3 keep3 st3 fpn
 generalize s2.heap.objs.size=acc at *
 have e3:s2.heap.push { cls:=.type "list", dict:=none,data:=.seq ([]:List NI).toArray }=s3.heap:=by grind
 have keep3':∀b o,s2.heap.get? b=some o->s3.heap.get? b=some o:=fun b o q=>by simp_all
 have st3':tn 0 s3.heap:=by simp_all
 refine RU hcell (by simp) (fun h₁ hns₁ hsb₁=>?_) hkind
 have hC:s3.heap.objs.size=s3.heap.objs.size:=rfl
 have keep4:∀b o,s3.heap.get? b=some o->h₁.get? b=some o:=fun b o q=>hsb₁.extBut b o (NU (NJ q)) (NF _ q)
 have fpC:∀b∈fp,b≠s3.heap.objs.size:=fun b hb=>by
  obtain⟨o,q,_⟩:=fp3 b hb
  exact NU (NJ (keep3' b o q))
 -- the block's context
 generalize hX':aZ X scope cl s3.heap.objs.size s3 H3 fp N'=X'
 have hXp:X'.prog=X.prog:=by rw[<- hX'];rfl
 have hXw:X'.w=X.w:=by rw[<- hX'];rfl
 have hXK:X'.K=X.K:=by rw[<- hX'];rfl
 have hXA:X'.A=X.A:=by rw[<- hX'];rfl
 have hXe:X'.env=compEnvC scope cl s3.heap.objs.size X.env:=by rw[<- hX'];rfl
 have hXc:X'.calm=true:=by rw[<- hX'];exact hc
 have hXx:X'.xe=fun _ _=>False:=by rw[<- hX'];exact hxe
 have hXf:X'.fs=frs X.stack:=by rw[<- hX'];rfl
 have hXex:X'.ex=fp:=by rw[<- hX'];rfl
 have hXN:X'.N=N':=by rw[<- hX'];rfl
 have hXs:X'.ax=s3:=by rw[<- hX'];rfl
 have hXH:X'.aD=H3:=by rw[<- hX'];rfl
 have hXpn:X'.pn=[]:=by rw[<- hX'];rfl
 have okX:X'.Ok:=by
  rw[<- hX']
  refine⟨I3.ok.mod,hkind,I3.ok.glob,I3.ok.blt,NK _,fun a b c p q=>I3.ok.inj a b c (hcl1 a c p) (hcl1 b c q),fun y hy=>?_,fun _ _ z=>(by cases z),I3.ok.hd,I3.ok.frames,.inl rfl,fun b hb=>⟨fpC b hb,fun y c p=>(f2 b hb).2.2.2.2.1 y c (hcl1 y c p)⟩,
   I3.bs,N4 I3.ok.bsz I3.sz,fun b o p hb=>?_,fun b hb z=>?_,I3.stack,I3.jz⟩
  ·have hy':(relabel scope X.env).names.lookup y=some .cell\/(relabel scope X.env).names.lookup y=some .free:=hy
   have free:scope.names.lookup y=some .free->∃c,cl.lookup y=some c:=fun q=>hcl2 y (lookup_mem q)
   rcases hy' with q | q
   ·rcases df q with z | ⟨z,_⟩
    ·exact absurd rfl (hcell _ (lookup_mem z))
    ·exact free z
   ·rcases df q with z | ⟨_,z⟩
    ·exact free z
    grind
  ·rcases(f2 b hb).2.2.2.1 with z | z
   ·exact I3.ok.pf b o p z
   ·exact absurd (N7 (NJ p) (N4 I3.ok.bsz z)) (O7 _)
  ·rcases NV.mp (I3.d_ b z) with q | q
   ·exact(f2 b hb).2.1 q
   ·exact(f2 b hb).2.2.1 q
 have I4:∀tk,Inv X' [] (oS tn'.length ix σ) H3 { s3 with heap:=h₁,toks:=tk }:=fun tk=>by
  have hloc:=I3.loc
  refine⟨okX,by rw[hXs],I3.bare,?_,⟨fun y=>([]:List (Str × NI)).reverse.lookup y,by rw[hXe];exact hns₁,fun i y v e1 e2 e3=>?_⟩,fun y c p=>?_,?_,fun y c p=>?_,fun p hp=>?_,?_,?_⟩
  ·rw[hXf,hXex,hXH,hXs];exact Un.kept keep4
  ·rw[hXN,hN] at e1
   by_cases hit':i<tn'.length
   ·exfalso
    unfold oS at e2
    grind
   ·have e10:N'[i]?=some y:=by grind
    obtain⟨j,rfl⟩:∃j,i=tn'.length+j:=⟨i - tn'.length,by omega⟩
    have e1':(ix.map fun i=>(X.N[i]?).getD ("" : Str))[j]?=some y:=by
     grind
    have e2':(ix.map fun i=>(σ[i]?).join)[j]?=some (some v):=by
     unfold oS at e2
     rw[N8 (by simp)] at e2
     simpa using e2
    rw[Oh] at e1' e2'
    cases hj:ix[j]? with
    | none=>grind
    | some i0=>
     rw[hj] at e1' e2'
     have e1'':(X.N[i0]?).getD ("" : Str)=y:=by grind
     have e2'':(σ[i0]?).join=some v:=by grind
     have hsv:σ[i0]?=some (some v):=by
      cases q:σ[i0]? with
      | none=>grind
      | some z=>rw[q] at e2'';have:z=some v:=by simpa using e2''
                rw[this]
     have hlt:i0<X.N.length:=by
      have:=(OO.mp hsv).1
      rw[I3.len] at this;exact this
     have hNy:X.N[i0]?=some y:=by
      rw[N0 hlt] at e1'' ⊢
      simpa using e1''
     have hyt:y∈N'.drop tn'.length:=by
      refine Oc (i:=j) ?_
      rw[List.getElem?_drop];exact e10
     have hyf:=hcap y hyt
     have hyc:=outc (y,.free) (lookup_mem hyf) rfl
     obtain⟨m,hn,hl⟩:=hloc
     obtain⟨u,r,l⟩:=hl i0 y v hNy hsv (.inr (.inl hyc))
     refine⟨u,r,?_⟩
     rcases l with⟨k1,_⟩ | ⟨_,c,p,z⟩
     ·have hyc':X.env.kindOf y=some .cell:=hyc
      rw[k1] at hyc';cases hyc'
     ·obtain⟨c',p'⟩:=hcl2 y (lookup_mem hyf)
      have pc:c'=c:=by
       have:=hcl1 y c' p'
       rw[p] at this;cases this;rfl
      subst pc
      refine .inr ⟨.inl ?_,c',by rw[hXe];exact p',?_⟩
      ·rw[hXe];exact cJ I3.ok.kind hyf hyc
      ·obtain⟨o,q1,q2⟩:=z
       exact⟨o,keep4 c' o q1,q2⟩
  ·rw[hXe] at p
   obtain⟨v,o,q1,q2⟩:=I3.cell y c (hcl1 y c p)
   exact⟨v,o,keep4 c o q1,q2⟩
  ·rw[hXe];exact I3.hok.fresh (NK _)
  ·rw[hXe] at p;exact I3.cD y c (hcl1 y c p)
  ·rw[hXpn] at hp;cases hp
  ·rw[hXp,hXw];exact I3.hok.kept keep4
  ·rw[hXN,hN];simp[oS]
 -- the loop
 have stat:∀{H':Hp},(∀b∈fp,H' b=none)->∀b∈fp,lP X' [] H' b:=fun hn b hb=>by
  refine⟨hn b hb,by rw[hXe];exact fpC b hb,?_,.inl (by rw[hXex];exact hb),fun y c p=>?_,fun p hp=>by rw[hXpn] at hp;cases hp⟩
  ·rw[hXf];intro z
   rcases NV.mp (I3.d_ b z) with q | q
   ·exact(f2 b hb).2.1 q
   ·exact(f2 b hb).2.2.1 q
  ·rw[hXe] at p;exact(f2 b hb).2.2.2.2.1 y c (hcl1 y c p)
 have fin:∀{H5:Hp} {s5:NM} {σ5:St},Inv X' [] σ5 H5 s5->Q (.ref acc) H5->compPost (model X.prog X.w) X.A X.xe use Q2 (.ref acc) s3.heap.objs.size (.ok .next) s5:=fun{H5 s5 σ5} I5 q=>by
  obtain⟨m,hn,_⟩:=I5.loc
  rw[hXe] at hn
  have hn':s5.heap.Ns s3.heap.objs.size m:=hn
  obtain⟨oC,esC,epC,hC1,hC2,hC3⟩:=hn'
  have u5:=I5.base
  rw[hXf,hXex,hXH,hXs] at u5
  have fr:H5 s3.heap.objs.size=none:=by have:=I5.free;rw[hXe] at this;exact this
  have hok5:=I5.hok
  rw[hXp,hXw] at hok5
  have hos:s5.os=s3.os:=by have:=I5.os;rw[hXs] at this;exact this
  have IX:Inv X pins σ H5 s5:=I3.qo (s':=s5) (ch:=fp) hos u5 hok5 I5.bare (fun b hb=>by
   obtain⟨g0,g1,g2,g3,g4,g5⟩:=f2 b hb
   exact⟨g3,g1,g4,g5⟩)
  have cC:∀x c,X.env.cells.lookup x=some c->c≠s3.heap.objs.size:=fun x c z e=>by
   obtain⟨v,q⟩:=I3.cell x c z
   exact absurd q.lt (by rw[e];exact O7 _)
  have pC:∀p∈X.pn++pins,p.1≠s3.heap.objs.size:=fun p hp e=>by
   have:=NJ (I3.pin p hp).1
   rw[e] at this
   exact O7 _ this
  refine hfin acc s3.heap.objs.size H5 s5 oC (IX.jD fun p hp=>?_) cC I3.sz pC ⟨m,fun h' z=>⟨oC,esC,epC,z,hC2,hC3⟩⟩ q
  rcases Ou.mp hp with z | z
  ·exact IX.pin p (NP _ z)
  ·have e:=N_.mp z
   subst e
   refine⟨hC1,fr,Pu I3.lt,I3.Iv (NK _),fun v e=>?_⟩
   have e':oC.data=.cell v:=e
   rw[hC2] at e';cases e'
 have loop:∀tk,codeAny (model X.prog X.w) X.A (.compLoop (.ListComp elt [⟨tg,iter,ifs,0⟩] scope pos) 0 (.ref it) (.ref acc) (compEnvC scope cl s3.heap.objs.size X.env))
   (compPost (model X.prog X.w) X.A X.xe use Q2 (.ref acc) s3.heap.objs.size) { s3 with heap:=h₁,toks:=tk }:=fun tk=>by
  refine t_ (fun n s'=>∃i ys σ' H',Inv X' [] σ' H' s'/\gv tn'.length ix σ σ'/\tn i s'.heap/\(∀b∈fp,H' b=none)/\W i n ys H') (fun n s5 h5=>?_) m0
   ⟨0,[],oS tn'.length ix σ,H3,I4 tk,⟨_,List.length_replicate,rfl⟩,T.keep _ _ _ st3' fun b _ o q=>keep4 b o q,fpn,w0⟩
  obtain⟨i,ys,σ5,H5,I5,hσ,st5,fr5,w5⟩:=h5
  rcases turn i n ys H5 w5 with⟨stop,q⟩ | ⟨go,step⟩
  ·have d:=T.done X' hXp hXw hXK hXc i [] s5 σ5 H5 (fun _ _=>False) I5 (stat fr5) st5 stop
   rw[hXA] at d
   refine thn d fun r s6 ⟨hr,I6⟩=>?_
   subst hr
   exact fin I6 q
  ·have d:=T.item X' hXp hXw hXK hXc i [] s5 σ5 H5 (fun _ _=>False) I5 (stat fr5) st5 go
   rw[hXA] at d
   refine thn d fun r s6 ⟨u,hr,h6⟩=>?_
   subst hr
   refine thn h6 fun _ s7 ⟨z,H7,I7,r7,y7,st7,fr7⟩=>?_
   have I7':=I7.pinned (stat fr7) (T.obj _ _ st7)
   have again:∀{H9:Hp} {s9:NM} {ys9:List V} {σ9:St},Inv X' ([]++gX fp s7.heap) σ9 H9 s9->gv tn'.length ix σ σ9->(∃m',m'<n/\W (i+1) m' ys9 H9)->∃m',m'<n/\∃i ys σ' H',Inv X' [] σ' H' s9/\gv tn'.length ix σ σ'/\tn i s9.heap/\(∀b∈fp,H' b=none)/\W i m' ys H':=fun{H9 s9 ys9 σ9} I9 c9 ⟨m',hm,w9⟩=>by
    refine⟨m',hm,i+1,ys9,_,H9,I9.fO,c9,T.keep _ _ _ st7 fun b hb o e=>(I9.pin (b,o) (NP _ (NP _ (cu hb e)))).1,fun b hb=>?_,w9⟩
    obtain⟨o,e,_⟩:=T.obj _ _ st7 b hb
    exact(I9.pin (b,o) (NP _ (NP _ (cu hb e)))).2.1
   have ht':=ht cl s3.heap.objs.size s3 H3 fp
   have he':=he cl s3.heap.objs.size s3 H3 fp
   have hg':=hg cl s3.heap.objs.size s3 H3 fp
   rw[hX'] at ht' he' hg'
   rw[<- hXe]
   have a0:=hg' _ s7 σ5 H7 z u _ I7' r7 (step σ5 z H7 hσ y7)
   rw[hXp,hXw,hXA,hXx] at a0
   refine thn a0 fun _ s8 ⟨σ8,H8,I8,c8,q8⟩=>?_
   have a1:=ht' _ s8 _ H8 _ I8 q8
   rw[hXp,hXw,hXA,hXx] at a1
   refine thn a1 fun b s9 ⟨H9,I9,q9⟩=>?_
   cases b with
   | false=>exact again I9 c8 q9
   | true=>
    have a2:=he' _ s9 _ H9 _ I9 q9
    rw[hXp,hXw,hXA,hXx] at a2
    refine thn a2 fun yv s10 ⟨y,H10,I10,r10,q1,q2,q3⟩=>?_
    have a3:=fJ (X:=X') _ s10 _ H10 (.ref acc) [y] (.ref acc) [yv] (fun _ Hq=>∃m',m'<n/\W (i+1) m' (ys++[y]) Hq) I10 rfl (.cons r10 .nil) ⟨acc,ys,y,rfl,rfl,q1,q2,q3⟩
    rw[hXp,hXw,hXA,hXx] at a3
    exact thn a3 fun _ s11 ⟨_,H11,I11,_,q11⟩=>again I11 c8 q11
 refine codeAny_compStart_list (loop _) ?_
 exact T.self _ 0 _ _ _ (T.keep _ _ _ st3' fun b _ o q=>keep4 b o q) (loop _)
section
variable {X:Cx}{elt iter tg:Expr}{tn':List Str}{tgr:TG}{ifs:List Expr}{scope osc:R0}{pos:Pos}{wi:TI}{tt:TT}{te:TE}
def C4 (ix) (tn' N')
  (hxe:X.xe=fun _ _=>False) (hc:X.calm=true) (ho:X.env.scope=osc) (hN:N'=tn'++ix.map fun i=>(X.N[i]?).getD ("" : Str)) (hnd:N'.Nodup)
  (hall:(∀y∈scope.names,y.2=.free->osc.names.lookup y.1=some .cell)/\(∀y∈scope.names,y.2≠.cell)/\scope.kind=.function/\(∀y∈scope.names,y.2=.local->scope.names.lookup y.1=some .local)/\(∀y∈N'.drop tn'.length,scope.names.lookup y=some .free))
  (hi:PI X tg iter wi) (hg:∀cl C ax aD fp,PG (aZ X scope cl C ax aD fp N') tg tgr)
  (ht:∀cl C ax aD fp,PTs (aZ X scope cl C ax aD fp N') ifs tt)
  (he:∀cl C ax aD fp,PE (aZ X scope cl C ax aD fp N') elt te)
  (hs:∀x,foldedSetIterable iter X.env x=pure x:=by intro _;rfl) :
  PE X (.ListComp elt [⟨tg,iter,ifs,0⟩] scope pos) (rg wi tn'.length ix tgr tt te):=by
 intro pins s σ H Q I h
 have e:eval (.ListComp elt [⟨tg,iter,ifs,0⟩] scope pos) X.env=comprehension (.ListComp elt [⟨tg,iter,ifs,0⟩] scope pos) scope X.env (firstIterPos [⟨tg,iter,ifs,0⟩] pos) (newList []) false (eval iter X.env) none:=by
  rfl
 refine qe ix N' hxe hc ho hN hnd hall hi hg ht he hs I h fun acc C H5 s5 o I5 cC hC pC hm q=>?_
 obtain⟨m,hm⟩:=hm
 exact⟨m,hm _ (I5.pin (C,o) (NP _ (NP _ (N_.mpr rfl)))).1,fun h' hs'=>⟨.ref acc,H5,I5.HJ cC hC pC hs',rfl,q⟩⟩
def sN {py spos:Pos} (ix) (tn' N')
  (hxe:X.xe=fun _ _=>False) (hc:X.calm=true) (ho:X.env.scope=osc) (hN:N'=tn'++ix.map fun i=>(X.N[i]?).getD ("" : Str)) (hnd:N'.Nodup)
  (hall:(∀y∈scope.names,y.2=.free->osc.names.lookup y.1=some .cell)/\(∀y∈scope.names,y.2≠.cell)/\scope.kind=.function/\(∀y∈scope.names,y.2=.local->scope.names.lookup y.1=some .local)/\(∀y∈N'.drop tn'.length,scope.names.lookup y=some .free))
  (hi:PI X tg iter wi) (hg:∀cl C ax aD fp,PG (aZ X scope cl C ax aD fp N') tg tgr)
  (ht:∀cl C ax aD fp,PTs (aZ X scope cl C ax aD fp N') ifs tt)
  (he:∀cl C ax aD fp,PE (aZ X scope cl C ax aD fp N') elt te)
  (hNN:X.N.Nodup) (hy:X.N[i]?=some y) (hl:X.env.scope.names.lookup y=some .local)
  (hsw:swapsWith (.ListComp elt [⟨tg,iter,ifs,0⟩] scope pos) (some (.Name y py)) spos.line X.env=pure true:=by rfl)
  (hs:∀x,foldedSetIterable iter X.env x=pure x:=by intro _;rfl) :
  PS X (.Assign [.Name y py] (.ListComp elt [⟨tg,iter,ifs,0⟩] scope pos) spos) (Fm (rg wi tn'.length ix tgr tt te) (gq i)):=by
 intro pins s σ H D I h
 rw[exec_Assign_Name_used _ _ _ _ hsw]
 refine gV (OV ?_)
 refine gV ?_
 refine gV (qe ix N' hxe hc ho hN hnd hall hi hg ht he hs I h fun acc C H5 s5 o I5 cC hC pC hm q=>?_)
 obtain⟨m,hm⟩:=hm
 refine Sl (gU (v:=.ref acc) I5 hNN hy (.inl hl) rfl (fun s6 I6=>?_) (.inr hl))
 refine⟨m,hm _ (I6.pin (C,o) (NP _ (NP _ (N_.mpr rfl)))).1,fun h' hs'=>?_⟩
 exact NG (NG ⟨_,H5,I6.HJ cC hC pC hs',q⟩)
end
section
variable {κ:Type} [DecidableEq κ]
noncomputable def i8 (kvs:List (κ × V)) (k:κ):Option V:=(kvs.find? fun kv=>decide (kv.1=k)).map (·.2)
noncomputable def putK (kvs:List (κ × V)) (k:κ) (v:V):List (κ × V):=
 if (kvs.any fun kv=>decide (kv.1=k))=true then kvs.map (fun kv=>if kv.1=k then (kv.1,v) else kv) else kvs++[(k,v)]
def jL {p:κ × V}{r:List (κ × V)}{k:κ} (e:p.1=k):i8 (p::r) k=some p.2:=by simp[i8,Qz,e]
def jQ {k:κ} (e:¬ p.1=k):i8 (p::r) k=i8 r k:=by simp[i8,Qz,e]
theorem sD (k:κ):∀kvs:List (κ × V),(kvs.any fun kv=>decide (kv.1=k))=(i8 kvs k).isSome
 | []=>rfl
 | p::r=>by
  rw[Pf]
  by_cases e:p.1=k
  ·simp only[jL e,decide_eq_true e,Bool.true_or,Option.isSome_some]
  ·rw[jQ e,decide_eq_false e,Bool.false_or];exact sD k r
def k_ (kvs) (k:κ) (v):(putK kvs k v).length<=kvs.length+1:=by
 unfold putK
 grind
def ja.Aa (r:ja o u):o.isSome=u.isSome:=by
 cases o with
 | none=>cases u with
  | none=>rfl
  | some _=>exact(show False from r).elim
 | some _=>cases u with
  | none=>exact(show False from r).elim
  | some _=>rfl
theorem ja.getD (r:ja o u) (rd:RelV d d'):RelV (o.getD d) (u.getD d'):=by
 cases o with
 | none=>cases u with
  | none=>exact rd
  | some _=>exact(show False from r).elim
 | some _=>cases u with
  | none=>exact(show False from r).elim
  | some _=>exact r
def KV.val (r:KV kvs vs) (k:κ):ja (i8 kvs k) (valueAt vs k):=by
 unfold KV at r
 induction r with
 | nil=>exact P1
 | @cons p q ps qs h t ih=>
  obtain⟨h1,h2⟩:=h
  by_cases e:p.1=k
  ·have e':q.1=k:=h1.symm.trans e
   have b:valueAt (q::qs) k=some q.2:=by simp[valueAt,Qz,e']
   rw[jL e,b];exact h2
  ·have e':¬ q.1=k:=fun z=>e (h1.trans z)
   have b:valueAt (q::qs) k=valueAt qs k:=by simp[valueAt,Qz,e']
   rw[jQ e,b];exact ih
theorem KV.any (r:KV kvs vs) (k:κ):(kvs.any fun kv=>decide (kv.1=k))=vs.any fun kv=>decide (kv.1=k):=by
 unfold KV at r
 induction r with
 | nil=>rfl
 | cons h t ih=>simp_all
def KV.yW (r:KV kvs vs) (k:κ) (ry:RelV y u) :
  KV (kvs.map fun kv=>if kv.1=k then (kv.1,y) else kv) (vs.map fun kv=>if kv.1=k then (kv.1,u) else kv):=by
 unfold KV at r ⊢
 induction r with
 | nil=>exact .nil
 | @cons p q ps qs h t ih=>
  rw[NR,NR]
  refine .cons ?_ ih
  grind
def KV.put (r:KV kvs vs) (k:κ) (ry:RelV y u):KV (putK kvs k y) (stored vs k u):=by
 unfold putK stored
 rw[r.any k]
 by_cases e:(vs.any fun kv=>decide (kv.1=k))=true
 ·rw[if_pos e,if_pos e];exact r.yW k ry
 ·rw[if_neg e,if_neg e];exact Paired.snoc r ⟨rfl,ry⟩
theorem KV.length {vs:List (κ × NI)} (r:KV kvs vs):kvs.length=vs.length:=Paired.length r
end
def xM (r:RelV (kV k) u):(bM P w).is k u=true:=by
 cases k with
 | inl i=>obtain⟨t,e⟩:=(show ∃t,u=Qw i t from r);subst e;exact ve P w i t
 | inr x=>obtain⟨t,e⟩:=(show ∃t,u=Tx x t from r);subst e;exact u_ P w x t
theorem pO {P:NT}{w:Oe}:∀{ks:List Key}{us:List NI},Vals (ks.map kV) us->ItemsAre (bM P w) ks us
 | [],_,r=>by rw[S3] at r;cases r;exact .nil
 | k::ks,_,r=>by
  rw[NR] at r
  cases r with
  | cons h t=>exact .cons (xM h) (pO t)
abbrev KT (H:Hp):List (List Key × V)->List (List Key × Addr × NI)->Prop:=Paired fun p q=>p.1=q.1/\H q.2.1=some (.tup (p.1.map kV))/\RelV p.2 q.2.2
def KT.val (r:KT H kvs xs) (k):ja (i8 kvs k) ((atKey xs k).map (·.2)):=by
 induction r with
 | nil=>exact P1
 | @cons p q ps qs h t ih=>
  obtain⟨h1,_,h2⟩:=h
  by_cases e:p.1=k
  ·have e':q.1=k:=h1.symm.trans e
   have b:atKey (q::qs) k=some q.2:=by simp[atKey,Qz,e']
   rw[jL e,b];exact h2
  ·have e':¬ q.1=k:=fun z=>e (h1.trans z)
   have b:atKey (q::qs) k=atKey qs k:=by simp[atKey,Qz,e']
   rw[jQ e,b];exact ih
def KT.yW (r:KT H kvs xs) (k) (ry:RelV y u) :
  KT H (kvs.map fun kv=>if kv.1=k then (kv.1,y) else kv) (xs.map (putAt k u)):=by
 induction r with
 | nil=>exact .nil
 | @cons p q ps qs h t ih=>
  rw[NR,NR]
  refine .cons ?_ ih
  obtain⟨h1,h2,h3⟩:=h
  unfold putAt
  grind
def KT.put (r:KT H kvs xs) (k) (hb:H b=some (.tup (k.map kV))) (ry:RelV y u) :
  KT H (putK kvs k y) (storedH xs k b u):=by
 have e:(kvs.any fun kv=>decide (kv.1=k))=(atKey xs k).isSome:=by
  rw[sD,(r.val k).Aa,Option.isSome_map]
 unfold putK storedH
 rw[e]
 by_cases q:(atKey xs k).isSome=true
 ·rw[if_pos q,if_pos q];exact r.yW k ry
 ·rw[if_neg q,if_neg q];exact Paired.snoc r ⟨rfl,hb,ry⟩
def KT.keeps (r:KT H kvs xs) (ht:∀b ys,H b=some (.tup ys)->H' b=some (.tup ys)):KT H' kvs xs:=
 Paired.oY r fun _ _ z=>⟨z.1,ht _ _ z.2.1,z.2.2⟩
section
variable {P:NT}{w:Oe}{H:Hp}{h:Heap}{a:Addr}
def F9 (ok:HOk P w H h) (e:Rd H a u):a_ P w H h a u:=e.ok ok
def uF (ok:HOk P w H h) (e:Rd H a (.dK kvs)):kvs.length<=sizeLine/\(a == sysModules)=false/\∃vs,KV kvs vs/\h.DictOf (bM P w) a vs:=
 show a_ P w H h a (.dK kvs) from F9 ok e
def JB (ok:HOk P w H h) (e:H a=some (.dK kvs)):kvs.length<=sizeLine/\(a == sysModules)=false/\∃vs,KV kvs vs/\h.DictOf (bM P w) a vs:=uF ok (.inl e)
def mL (ok:HOk P w H h) (e:H a=some (.tup (ks.map kV))):(tupleKind (bM P w)).is h ks a:=by
 obtain⟨_,its,r,o,h1,⟨h2,n,h3⟩,_⟩:=(show a_ P w H h a (.tup (ks.map kV)) from ok a _ e)
 exact⟨o,its.toArray,n,h1,h2,h3,by simpa using pO r⟩
def tB {kvs:List (List Key × V)} (ok:HOk P w H h) (e:Rd H a (.dT kvs)):kvs.length<=sizeLine/\(a == sysModules)=false ∧
  ∃xs,KT H kvs xs/\h.DictOfH (tupleKind (bM P w)) a xs:=by
 obtain⟨z,y,xs,r,o,es,ep,h1,h2,h3,h4,h5⟩:=(show a_ P w H h a (.dT kvs) from F9 ok e)
 refine⟨z,y,xs,r,o,es,ep,h1,h2,h3,h4,fun x hx=>?_,h5⟩
 have all:∀{l:List (List Key × V)} {m:List (List Key × Addr × NI)},KT H l m->∀x∈m,(tupleKind (bM P w)).is h x.1 x.2.1:=by
  intro l m q
  induction q with
  | nil=>simp
  | @cons p q ps qs hq t ih=>
   intro x hx
   rcases NV.mp hx with e | hx
   ·subst e
    exact mL ok (by simp_all)
   grind
 grind
def Ga (ok:HOk P w H h) (e:H a=some (.dT kvs)):kvs.length<=sizeLine/\(a == sysModules)=false ∧
  ∃xs,KT H kvs xs/\h.DictOfH (tupleKind (bM P w)) a xs:=tB ok (.inl e)
end
def rM (H:Hp) (a:Addr) (y:V) (r:Option V):Prop:=
 (∃kvs k,Rd H a (.dK kvs)/\y=kV k/\r=i8 kvs k)\/∃kvs k b,Rd H a (.dT kvs)/\y=.ref b/\H b=some (.tup (k.map kV))/\r=i8 kvs k
def AX (H:Hp) (a:Addr) (y v:V) (H':Hp):Prop:=
 (∃kvs k,H a=some (.dK kvs)/\y=kV k/\kvs.length<sizeLine/\H'=upd H a (.dK (putK kvs k v))) ∨
 ∃kvs k b,H a=some (.dT kvs)/\y=.ref b/\H b=some (.tup (k.map kV))/\kvs.length<sizeLine/\H'=upd H a (.dT (putK kvs k v))
def rM.t {k:List Key} (e:H a=some (.dT kvs)) (eb:H b=some (.tup (k.map kV))):rM H a (.ref b) (i8 kvs k):=.inr ⟨kvs,k,b,.inl e,rfl,eb,rfl⟩
def AX.t {k:List Key} (e:H a=some (.dT kvs)) (eb:H b=some (.tup (k.map kV))) (hl:kvs.length<sizeLine) :
  AX H a (.ref b) v (upd H a (.dT (putK kvs k v))):=.inr ⟨kvs,k,b,e,rfl,eb,hl,rfl⟩
section
variable {X:Cx}{pins:List (Addr × Obj)}{σ:St}{H:Hp}{s:NM}{a:Addr}{y v:V}{u r:NI}{o:Option V}{A:Oa}{E:NI->NM->Prop}
def Inv.big (I:Inv X pins σ H s):sysModules<s.heap.objs.size:=by
 have h:mainGlobals<s.heap.objs.size:=(I.mod.glob.keeps I.bk).lt
 exact Q0 (by decide) h
def zQ (hu:A.units+1<cLine) (I:Inv X pins σ H s) (g:rM H a y (some v)) (ry:RelV y u) (h:∀w' s',Inv X pins σ H s'->RelV v w'->Q w' s') :
  wpAny (model X.prog X.w) A (getItem (.ref a) u) Q E s:=by
 rcases g with⟨kvs,k,e,ey,l⟩ | ⟨kvs,k,b,e,ey,eb,l⟩
 ·subst ey
  obtain⟨z,hd,vs,rel,dd⟩:=uF I.hok e
  obtain⟨w',hw,rw'⟩:=ja.some_of (v:=v) (o:=valueAt vs k) (by rw[l];exact rel.val k)
  exact wpAny_getItem_of (xM ry) dd.mapOf hw (h w' _ (I.tok _) rw')
 ·subst ey
  cases (show u=Ob b from ry)
  obtain⟨z,hd,xs,rel,dd⟩:=tB I.hok e
  obtain⟨w',hw,rw'⟩:=ja.some_of (v:=v) (o:=(atKey xs k).map (·.2)) (by rw[l];exact rel.val k)
  obtain⟨p,hp,hp2⟩:=Pk.mp hw
  refine wpAny_getItem_heap (Sb hu) (mL I.hok eb) dd hp ?_
  rw[hp2]
  exact h w' _ (I.tok _) rw'
def qx (I:Inv X pins σ H s) (mu:Mut (H a)) (hs:PC a s.heap h') (he:∃q,h'.get? a=some q) (new:a_ X.prog X.w (upd H a ob) h' a ob) :
  Inv X pins σ (upd H a ob) { s with heap:=h',toks:=t' }:=
 I.write (x:=a) (e:=a) mu (.inl rfl) (fun b q hb z=>(hs.2 b hb).trans z) he new
def GR (z:kvs.length<=sizeLine) (hd:(a == sysModules)=false) (rel:KV kvs vs) (dd:h'.DictOf (bM P w) a vs) :
  a_ P w H' h' a (.dK kvs):=⟨z,hd,vs,rel,dd⟩
def z9 {H':Hp}{Q:Unit->NM->Prop} (hu:A.units+1<cLine) (I:Inv X pins σ H s) (g:AX H a y v H') (ry:RelV y u) (rv:RelV v r) (h:∀s',Inv X pins σ H' s'->Q () s') :
  wpAny (model X.prog X.w) A (setItem (.ref a) u r) Q E s:=by
 rcases g with⟨kvs,k,e,ey,l,eH⟩ | ⟨kvs,k,b,e,ey,eb,l,eH⟩
 ·subst ey eH
  obtain⟨z,hd,vs,rel,dd⟩:=JB I.hok e
  have hz:vs.length<=sizeLine:=by rw[<- rel.length];exact z
  have hl:(putK kvs k v).length<=sizeLine:=by have:=k_ kvs k v;omega
  refine wpAny_setItem_pairs (hsz:=hz) (xM ry) dd fun h' dd' hs=>h _ ?_
  have he:∃q,h'.get? a=some q:=let ⟨q,_,_,hq,_⟩:=dd';⟨q,hq⟩
  exact qx I (by rw[e];exact P1) hs he (GR hl hd (rel.put k rv) dd')
 ·subst ey eH
  cases (show u=Ob b from ry)
  obtain⟨z,hd,xs,rel,dd⟩:=Ga I.hok e
  have hz:xs.length<=sizeLine:=by rw[<- Paired.length rel];exact z
  have hl:(putK kvs k v).length<=sizeLine:=by have:=k_ kvs k v;omega
  refine wpAny_setItem_heap (hsz:=hz) (Sb hu) (mL I.hok eb) dd fun h' dd' hs=>h _ ?_
  obtain⟨q,es,ep,hq,h2,h3,h4,_,h5⟩:=dd'
  refine qx I (by rw[e];exact P1) hs ⟨q,hq⟩ ⟨hl,hd,_,(rel.put k eb rv).keeps fun c ys ec=>?_,q,es,ep,hq,h2,h3,h4,h5⟩
  rw[aw (F8 ec e (fun z=>nomatch z))]
  exact ec
end
def Gr (i:Expr):Prop:=∀ov iv,subscripted i false ov iv=operate [ov,iv] (getItem ov iv)
def D_ {T id:String}
  (hl:typeLookup (.type T) "__getitem__" = pure (some (.builtin id))) (hs:Gr slice)
  (h:wpAny (model prog w) A (eval value env) (fun o s₁=>wpAny (model prog w) A (eval slice env) (fun i s₂=>s₂.TypeIs o T/\wpAny (model prog w) A (getItem o i) Q E s₂) E s₁) E s) :
  wpAny (model prog w) A (eval (.Subscript value slice pos) env) Q E s:=by
 refine Ud (N6 h (fun o s₁ h₁=>N6 h₁ (fun i s₂ h₂=>?_) fun _ _ x=>x) fun _ _ x=>x)
 obtain⟨hT,h₂⟩:=h₂
 unfold subscriptTail
 refine gV ?_
 rw[getitemInPython_of_ne hT.not_modules]
 refine gV (S5 hT hl ?_)
 have fin:wpAny (model prog w) A (subscripted slice false o i) (fun r s₃=>wpAny (model prog w) A (letTemporaryGo value o r >>= fun _=>pure r) Q E s₃) E s₂:=by
  rw[hs o i]
  exact wpAny_operating (N6 h₂ (fun r s₃ h₃=>gV (wpAny_letTemporaryGo (NG h₃))) fun _ _ x=>x)
 first
  | exact NG (gV fin)
  | exact gV (NG (gV fin))
  | exact gV fin
def sH {σ:St} (I:Inv X pins σ H s) (g:rM H a y o):s.TypeIs (.ref a) "dict" := by
 rcases g with⟨kvs,k,e,_,_⟩ | ⟨kvs,k,b,e,_,_,_⟩
 ·obtain⟨_,_,vs,_,dd⟩:=uF I.hok e
  exact dd.typeIs
 ·obtain⟨_,_,xs,_,dd⟩:=tB I.hok e
  exact dd.typeIs
noncomputable def Lf (td ty:TE):TE:=fun σ H Q=>td σ H fun x H1=>ty σ H1 fun y H2=>∃a v,x=.ref a/\rM H2 a y (some v)/\Q v H2
noncomputable def JJ (td ty tv:TE):TS:=fun D σ H=>tv σ H fun v H1=>td σ H1 fun x H2=>ty σ H2 fun y H3=>∃a H4,x=.ref a/\AX H3 a y v H4/\D.nx σ H4
section
variable {X:Cx}{o i e value:Expr}{pos pos' tpos:Pos}{td ty tv:TE}
def DM (hu:X.A.units+1<cLine) (ho:PE X o td) (hi:PE X i ty) (hs:Gr i):PE X (.Subscript o i pos) (Lf td ty):=by
 intro pins s σ H Q I h
 refine D_ PySem.F.slot_dict_getitem.lookup hs (thn (ho pins s σ H _ I h) fun u s1 ⟨x,H1,I1,rx,q1⟩=>thn (hi pins s1 σ H1 _ I1 q1) fun iv s2 ⟨y,H2,I2,ry,a,v,ex,g,q2⟩=>?_)
 subst ex
 obtain rfl:u=Ob a:=rx
 exact⟨sH I2 g,zQ hu I2 g ry fun w' s3 I3 rw'=>⟨v,H2,I3,rw',q2⟩⟩
def ED (hu:X.A.units+1<cLine) (ho:PE X o td) (hi:PE X i ty) (hv:PE X value tv) (hs:swapsWith value (some (.Subscript o i pos')) pos.line X.env=pure false) :
  PS X (.Assign [.Subscript o i pos'] value pos) (JJ td ty tv):=by
 intro pins s σ H D I h
 refine wpAny_Assign_Subscript (thn (hv pins s σ H _ I h) fun r s1 ⟨v,H1,I1,rv,q1⟩=>thn (ho pins s1 σ H1 _ I1 q1) fun u s2 ⟨x,H2,I2,rx,q2⟩=>thn (hi pins s2 σ H2 _ I2 q2) fun iv s3 ⟨y,H3,I3,ry,a,H4,ex,g,q3⟩=>?_) hs
 subst ex
 obtain rfl:u=Ob a:=rx
 exact z9 hu I3 g ry rv fun s4 I4=>⟨σ,H4,I4,q3⟩
end
def uR (h:Heap) (hb:sysModules<h.objs.size):a_ P w H (h.push { cls:=.type "dict", data:=.dict #[] }) h.objs.size (.dT []):=
 ⟨OI _,beq_eq_false_iff_ne.mpr (Q7 (NU hb)),[],.nil,_,#[],0,NN _ rfl,⟨rfl,rfl,rfl⟩,rfl,rfl,Ti⟩
noncomputable def GL:TE:=fun _ H Q=>∀p,H p=none->Q (.ref p) (upd H p (.dT []))
section
variable {X:Cx}{pos:Pos}
def CO:PE X (.Dict [] [] pos) GL:=fun pins s σ H Q I h=>
 wpAny_Dict_empty ⟨.ref s.heap.objs.size,_,I.laid (a:=s.heap.objs.size) (o:=.dT []) (t':=s.toks) (fun _ _ q=>NF _ q) (NK _) (uR s.heap I.big),rfl,h _ (I.hok.fresh (NK _))⟩
end
structure M2 (X:Cx) (o) (m) (apos:Pos) (e f) (cpos):Prop where
 base:attributeBase o m X.env (eval o X.env)=eval o X.env
 few:((backTo cpos (starEach [e,f] X.env)).all (fun x=>!x.1)&&(backToKw cpos (keywordEach [] X.env)).all (fun x=>x.1.isSome)
  && decide (([e,f]:List Expr).length+([]:List T7).length+(if ([]:List T7).isEmpty then 0 else 1)<30))=true
 line:(apos.endLine == cpos.line)=true
 trees:backTo cpos (starEach [e,f] X.env)=[(false,eval e X.env),(false,eval f X.env)]
def IsD (H:Hp) (a:Addr):Prop:=(∃kvs,Rd H a (.dK kvs))\/∃kvs,Rd H a (.dT kvs)
def Jd {σ:St} (I:Inv X pins σ H s) (d:IsD H a) :
  s.TypeIs (.ref a) "dict" /\ (∀b,Ob a=.ref b->∃ob,s.heap.get? b=some ob/\ob.dict=none)/\(a == sysModules)=false:=by
 rcases d with⟨kvs,e⟩ | ⟨kvs,e⟩
 ·obtain⟨_,hd,vs,_,dd⟩:=uF I.hok e
  refine⟨dd.typeIs,fun b q=>?_,hd⟩
  cases q
  obtain⟨ob,_,_,h1,h2,_⟩:=dd
  exact⟨ob,h1,h2.2.1⟩
 ·obtain⟨_,hd,xs,_,dd⟩:=tB I.hok e
  refine⟨dd.typeIs,fun b q=>?_,hd⟩
  cases q
  obtain⟨ob,_,_,h1,h2,_⟩:=dd
  exact⟨ob,h1,h2.2.1⟩
section
variable {X:Cx}{pins:List (Addr × Obj)}{σ:St}{H:Hp}{s:NM}{a:Addr}{y d:V}{u r:NI}{o:Option V}{A:Oa}{E:NI->NM->Prop}
def HM (hu:A.units+1<cLine) (I:Inv X pins σ H s) (g:rM H a y o) (ry:RelV y u) (rd:RelV d r) (h:∀w' s',Inv X pins σ H s'->RelV (o.getD d) w'->Q w' s') :
  wpAny (model X.prog X.w) A (call (.builtin "dict.get") [.ref a,u,r]) Q E s:=by
 rcases g with⟨kvs,k,e,ey,l⟩ | ⟨kvs,k,b,e,ey,eb,l⟩
 ·subst ey
  obtain⟨z,hd,vs,rel,dd⟩:=uF I.hok e
  refine call_meetsIn RI dd.typeIs PySem.F.entry_dict_get (PySem.F.args_dict_get_3 _ _ _) (meets_dict_get_default (bM X.prog X.w) a (xM ry) hd r) ⟨_,dd.mapOf,h _ _ (I.tok _) ?_⟩
  rw[l]
  exact(rel.val k).getD rd
 ·subst ey
  cases (show u=Ob b from ry)
  obtain⟨z,hd,xs,rel,dd⟩:=tB I.hok e
  refine call_meetsIn RI dd.typeIs PySem.F.entry_dict_get (PySem.F.args_dict_get_3 _ _ _) (meetsH_dict_get_default (tupleKind (bM X.prog X.w)) a b hd r) ⟨Sb hu,k,xs,mL I.hok eb,dd,h _ _ (I.tok _) ?_⟩
  rw[l]
  exact(rel.val k).getD rd
end
noncomputable def HQ (td ty tx:TE):TE:=fun σ H Q=>td σ H fun x H1=>∃a,x=.ref a/\IsD H1 a/\ty σ H1 fun y H2=>tx σ H2 fun z H3=>∃o,rM H3 a y o/\Q (o.getD z) H3
section
variable {X:Cx}{o e f:Expr}{apos cpos:Pos}{td ty tx:TE}
def BR (hu:X.A.units+1<cLine) (ho:PE X o td) (he:PE X e ty) (hf:PE X f tx) (m:M2 X o "get" apos e f cpos):PE X (.Call (.Attribute o "get" apos) [e,f] [] cpos) (HQ td ty tx):=by
 intro pins s σ H Q I h
 refine wpAny_Call_method m.base m.few m.line PySem.F.plainAttrs_dict RI PySem.F.type_dict_get (thn (ho pins s σ H _ I h) fun u s1 ⟨x,H1,I1,rx,a,ex,d,q1⟩=>?_)
 subst ex
 obtain rfl:u=Ob a:=rx
 obtain⟨t1,t2,_⟩:=Jd I1 d
 refine⟨t1,t2,?_⟩
 rw[m.trees]
 refine Calls.callWith_builtin rfl (Calls.evalArgs_plain (Qs (thn (he pins s1 σ H1 _ I1 q1) fun iv s2 ⟨y,H2,I2,ry,q2⟩=>
  Qs (thn (hf pins s2 σ H2 _ I2 q2) fun fv s3 ⟨z,H3,I3,rz,ov,g,q3⟩=>So ?_))))
 exact HM hu I3 g ry rz fun w' s4 I4 rw'=>⟨_,H3,I4,rw',q3⟩
end
end L2
namespace L2.FE
open PySem PySem.Spec PyProof.Rows
inductive D where
 | non | bl (b:Bool) | int (i:Int) | str (x:Str) | tup (ds:List D) | frl (ds:List D) | ref (n:Nat) | fn (x:Str) | edic | scr (ds:List D) | exc (c:Str) (fs:List (Str × Int)) | clo (f:Str) (ds:List D)
inductive O where
 | lst (ds:List D) | set (ns:List Int) | dic (kvs:List (Key × D)) | dit (kvs:List (List Key × D))
noncomputable abbrev Hh:=List O
noncomputable abbrev En:=List (Option D)
structure Xc where
 cls:Str
 fs:List (Str × Int)
inductive R (β:Type) where
 | ok (b:β) (h:Hh)
 | err (x:Xc) (h:Hh)
 | bad
noncomputable def R.bind (r:R β) (f:β->Hh->R γ):R γ:=match r with
 | .ok b h=>f b h
 | .err x h=>.err x h
 | .bad=>.bad
inductive Fl where
 | nx (e:En) | bk (e:En) | ct (e:En) | rt (d:D)
noncomputable abbrev ME:=En->Hh->R D
noncomputable abbrev MT:=En->Hh->R Bool
noncomputable abbrev MA:=En->Hh->R (List D)
noncomputable abbrev MS:=En->Hh->R Fl
def Fro (K:ND) (H:Hp) (p:Addr) (vs:List V):Prop:=
 (∃o,H p=some (.frz o (.lst vs)))\/∃o its n,K.lookup p=some o/\o.cls=.type "list" /\ o.dict=none/\o.data=.seq its n/\its.size<=sizeLine/\Vals vs its.toList
def Fro.sq {K:ND} (h:Fro K H p vs):SqL K H p vs:=by
 rcases h with⟨o,h⟩ | h
 ·exact .inl (.inr ⟨o,h⟩)
 ·exact .inr h
def Fr1 (H:Hp) (p:Addr) (vs:List V):Prop:=∃o,H p=some (.frz o (.lst vs))
def Fr1.fro {K:ND} (h:Fr1 H p vs):Fro K H p vs:=.inl h
def Fr1.sq {K:ND}{H:Hp}{p:Addr}{vs:List V} (h:Fr1 H p vs):SqL K H p vs:=let ⟨o,h⟩:=h;.inl (.inr ⟨o,h⟩)
def Fr1.rd (h:Fr1 H p vs):Rd H p (.lst vs):=.inr h
noncomputable def AtO (p:Addr) (o:Obj):HO:=.frz o (.ext fun h=>h.get? p=some o)
def XFs (H:Hp) (dc:Option Addr) (fs:List (Str × Int)):Prop:=(dc=none/\fs=[])\/∃dx od,dc=some dx/\H dx=some (.frz od (.xd (fs.map fun x=>(x.1,V.int x.2))))
def jo (H:Hp) (clos:List (Str × Addr)):List Str->List V->Prop:=Paired fun y v=>∃c o u,clos.lookup y=some c/\H c=some (AtO c o)/\o.data=.cell (some u)/\RelV v u
structure sY (f x qual) (ys) (params) (body:Expr) (scope:R0):Prop where
 tx:∃(p0 p2 p3:Pos) (qs:List (Str × Pos)),qs.map (·.1)=ys/\body=.Call (.Name f p0) (qs.map (fun y=>Uo y.1 y.2)++[.Name x p2]) [] p3
 kind:scope.kind=.function
 co:scope.isCoroutine=false
 gen:scope.isGenerator=false
 Gk:∀z∈scope.names,z.2≠.cell
 glob:scope.names.lookup f=some .globalImplicit
 loc:scope.names.lookup x=some .local
 free:∀y∈ys,scope.names.lookup y=some .free/\(y == ("__debug__" : Str))=false/\(y == ("__classdict__" : Str))=false
 nd:(f == ("__debug__" : Str))=false/\(x == ("__debug__" : Str))=false
 bind:∀clos pm cdv ctv u,bindArgs (PySem.W.kla_fn "<lambda>" qual params body scope clos pm cdv ctv) ⟨[u],[]⟩=pure [(x,u)]
def F5 (f:Str) (clos:List (Str × Addr)) (ys:List Str) (o:Obj) (c':Addr) (qual:Str):Prop:=
 ∃params body scope pm ctv x,o=Pw "<lambda>" qual params body scope clos pm c' ctv/\sY f x qual ys params body scope
mutual
inductive aC (K) (g) (α) (H):D->V->Prop where
 | non:aC K g α H .non .non
 | bl (b):aC K g α H (.bl b) (.bl b)
 | int (i):aC K g α H (.int i) (.int i)
 | str (x):aC K g α H (.str x) (.str x)
 | ref:α[n]?=some p->aC K g α H (.ref n) (.ref p)
 | tup {ds p vs}:H p=some (.tup vs)->ao K g α H ds vs->aC K g α H (.tup ds) (.ref p)
 | frl {ds p vs}:Fr1 H p vs->ao K g α H ds vs->aC K g α H (.frl ds) (.ref p)
 | scr {ds p vs}:Fro K H p vs->ao K g α H ds vs->aC K g α H (.scr ds) (.ref p)
 | fn:g x=some f->aC K g α H (.fn x) (.ref f)
 | edic:H p=some (.frz o (.dK []))->aC K g α H .edic (.ref p)
 | exc:g c=some C->H p=some (AtO p o)->o.cls=.ref C->(∃vs,o.data=.fields vs)->XFs H o.dict fs->aC K g α H (.exc c fs) (.ref p)
 | clo {f ds p o clos ys vs c' oc qual t vc}:H p=some (AtO p o)->F5 f clos ys o c' qual->H c'=some (AtO c' oc)->oc.data=.fields vc->vc[1]?=some (.str qual t)->jo H clos ys vs->ao K g α H ds vs->aC K g α H (.clo f ds) (.ref p)
inductive ao (K) (g:Str->Option Addr) (α:List Addr) (H:Hp):List D->List V->Prop where
 | nil:ao K g α H [] []
 | cons:aC K g α H d v->ao K g α H ds vs->ao K g α H (d::ds) (v::vs)
end
structure Ex0 (K:ND) (α) (H:Hp) (α':List Addr) (H':Hp):Prop where
 pre:α <+: α'
 tup:∀p xs , H p=some (.tup xs)->H' p=some (.tup xs)
 frz:∀p o u , H p=some (.frz o u)->H' p=some (.frz o u)
 tbl:∀p ps , H p=some (.tbl ps)->∃more,H' p=some (.tbl (ps++more))
def Ex0.fro {K:ND} (e:Ex0 K α H α' H') (p) (xs) (h:Fro K H p xs):Fro K H' p xs:=by
 rcases h with⟨o,h⟩ | h
 ·exact .inl ⟨o,e.frz _ _ _ h⟩
 ·exact .inr h
def Ex0.fr1 {K:ND} (e:Ex0 K α H α' H') (p) (xs) (h:Fr1 H p xs):Fr1 H' p xs:=let ⟨o,h⟩:=h;⟨o,e.frz _ _ _ h⟩
structure Ext (K) (α) (H) (α') (H'):Prop extends Ex0 K α H α' H' where
 kept:∀p o,H p=some o->p∉α->(∀ps,o≠.tbl ps)->H' p=some o
 new:∀p,p∈α'->p∉α->H p=none
section
variable {K:ND}{g:Str->Option Addr}{α α' α'':List Addr}{H H' H'':Hp}
def Ext.keep (e:Ext K α H α' H') (p) (o) (h:H p=some o) (n:p∉α) (t:∀ps,o≠.tbl ps:=by intro _ z;cases z):H' p=some o:=e.kept p o h n t
def Ext.stays (e:Ext K α H α' H'){p:Addr}{o:HO} (h:H p=some o) (n:p∉α):H' p≠none:=by
 cases o with
 | tbl ps=>obtain⟨m,q⟩:=e.tbl p ps h;simp_all
 | _=>rw[e.keep p _ h n];simp
def Ex0.refl:Ex0 K α H α H:=⟨Qm _,fun _ _ h=>h,fun _ _ _ h=>h,fun _ ps h=>⟨#[],by grind⟩⟩
theorem Ex0.trans (a:Ex0 K α H α' H') (b:Ex0 K α' H' α'' H''):Ex0 K α H α'' H'':=⟨a.pre.trans b.pre,fun p xs h=>b.tup p xs (a.tup p xs h),fun p o u h=>b.frz p o u (a.frz p o u h),fun p ps h=>by
  obtain⟨m1,e1⟩:=a.tbl p ps h
  obtain⟨m2,e2⟩:=b.tbl p _ e1
  grind⟩
theorem Ext.refl:Ext K α H α H:=⟨.refl,fun _ _ h _ _=>h,fun _ h n=>absurd h n⟩
theorem Ext.trans (a:Ext K α H α' H') (b:Ext K α' H' α'' H''):Ext K α H α'' H'':=⟨a.toEx0.trans b.toEx0,fun p o h n t=>b.kept p o (a.kept p o h n t) (fun z=>by rw[a.new p z n] at h;cases h) t,fun p z n=>by
  by_cases q:p∈α'
  ·exact a.new p q n
  ·have:=b.new p z q
   cases e:H p with
   | none=>rfl
   | some o=>exact absurd this (a.stays e n)⟩
def Ex0.get (e:Ex0 K α H α' H'){n:Nat} (h:α[n]?=some p):α'[n]?=some p:=by
 obtain⟨t,rfl⟩:=e.pre
 grind
mutual
theorem aC.ex0 (e:Ex0 K α H α' H'):∀{d:D}{v:V},aC K g α H d v->aC K g α' H' d v
 | _,_,.non=>.non
 | _,_,.bl b=>.bl b
 | _,_,.int i=>.int i
 | _,_,.str x=>.str x
 | _,_,.ref h=>.ref (e.get h)
 | _,_,.tup h r=>.tup (e.tup _ _ h) (ao.ex0 e r)
 | _,_,.frl h r=>.frl (e.fr1 _ _ h) (ao.ex0 e r)
 | _,_,.scr h r=>.scr (e.fro _ _ h) (ao.ex0 e r)
 | _,_,.fn h=>.fn h
 | _,_,.edic h=>.edic (e.frz _ _ _ h)
 | _,_,.exc hg h hc hd hf=>.exc hg (e.frz _ _ _ h) hc hd (hf.elim .inl fun⟨dx,od,a,b⟩=>.inr ⟨dx,od,a,e.frz _ _ _ b⟩)
 | _,_,.clo h l hc hd hv cs r=>.clo (e.frz _ _ _ h) l (e.frz _ _ _ hc) hd hv (L2.Paired.oY cs fun _ _ ⟨c,o,u,l,a,b⟩=>⟨c,o,u,l,e.frz _ _ _ a,b⟩) (ao.ex0 e r)
theorem ao.ex0 (e:Ex0 K α H α' H'):∀{ds:List D}{vs:List V},ao K g α H ds vs->ao K g α' H' ds vs
 | _,_,.nil=>.nil
 | _,_,.cons r t=>.cons (aC.ex0 e r) (ao.ex0 e t)
end
def aC.ext (e:Ext K α H α' H') (r:aC K g α H d v):aC K g α' H' d v:=r.ex0 e.toEx0
def ao.ext (e:Ext K α H α' H') (r:ao K g α H d v):ao K g α' H' d v:=r.ex0 e.toEx0
theorem ao.length:∀{ds:List D}{vs:List V},ao K g α H ds vs->ds.length=vs.length
 | _,_,.nil=>rfl
 | _,_,.cons _ t=>by simp[ao.length t]
theorem ao.append:∀{ds es:List D}{vs us:List V},ao K g α H ds vs->ao K g α H es us->ao K g α H (ds++es) (vs++us)
 | _,_,_,_,.nil,s=>s
 | _,_,_,_,.cons r t,s=>.cons r (ao.append t s)
theorem ao.get:∀{ds:List D}{vs:List V}{i:Nat}{d:D},ao K g α H ds vs->ds[i]?=some d->∃v,vs[i]?=some v/\aC K g α H d v
 | _,_,_,_,.nil,e=>by simp at e
 | _,_,0,_,.cons r _,e=>by simp_all
 | _,_,i+1,d,.cons _ t,e=>by
  obtain⟨u,h1,h2⟩:=ao.get t (by simpa using e)
  simp_all
theorem ao.set {d:D}{v:V} (r:aC K g α H d v):∀{ds:List D}{vs:List V} (i:Nat),ao K g α H ds vs->ao K g α H (ds.set i d) (vs.set i v)
 | _,_,_,.nil=>.nil
 | _,_,0,.cons _ t=>.cons r t
 | _,_,i+1,.cons q t=>.cons q (ao.set r i t)
theorem ao.take:∀{ds:List D}{vs:List V} (n:Nat),ao K g α H ds vs->ao K g α H (ds.take n) (vs.take n)
 | _,_,0,_=>.nil
 | _,_,_+1,.nil=>.nil
 | _,_,n+1,.cons r t=>.cons r (ao.take n t)
theorem ao.drop:∀{ds:List D}{vs:List V} n , ao K g α H ds vs->ao K g α H (ds.drop n) (vs.drop n)
 | _,_,0,r=>r
 | _,_,_+1,.nil=>.nil
 | _,_,n+1,.cons _ t=>ao.drop n t
def ao.ints (ns:List Int):ao K g α H (ns.map D.int) (ns.map V.int):=by
 induction ns with
 | nil=>exact .nil
 | cons n r ih=>exact .cons (.int n) ih
theorem ao.yI:∀{ns:List Int}{vs:List V},ao K g α H (ns.map D.int) vs->vs=ns.map V.int
 | [],_,.nil=>rfl
 | n::r,_,.cons (.int _) t=>by rw[ao.yI t];rfl
theorem ao.flat {ds:List D}{vs:List V} (r:ao K g α H ds vs):∀k,ao K g α H (N1 k ds).flatten (N1 k vs).flatten
 | 0=>.nil
 | k+1=>by rw[QW];exact r.append (ao.flat r k)
end
def OAt (K:ND) (g:Str->Option Addr) (α:List Addr) (H:Hp) (p:Addr):O->Prop
 | .lst ds=>∃vs,H p=some (.lst vs)/\ao K g α H ds vs
 | .set ns=>H p=some (.set (fun k=>ns.any (· == k)) ns.length)
 | .dic kvs=>∃kws,H p=some (.dK kws)/\Paired (fun(a:Key × D) (b:Key × V)=>a.1=b.1/\aC K g α H a.2 b.2) kvs kws
 | .dit kvs=>∃kws,H p=some (.dT kws)/\Paired (fun(a:List Key × D) (b:List Key × V)=>a.1=b.1/\aC K g α H a.2 b.2) kvs kws
def tX (H:Hp) (q:Addr × Pos × Str):Prop:=H q.1=some (.tbl #[])\/∃c' oc vc t,H q.1=some (.tbl #[rawInt q.2.1.line,rawInt q.2.1.col,.ref c'])/\H c'=some (AtO c' oc)/\oc.data=.fields vc/\vc[1]?=some (.str q.2.2 t)
noncomputable def E9 (fd:P_):Option Pos:=match fd.body with
 | .stmts b=>(match b.getLast? with
  | some (.Return (some (.Lambda _ _ _ pos)) _)=>some pos
  | some (.Return (some (.Call _ es _ _)) _)=>(match es.getLast? with | some (.Lambda _ _ _ pos)=>some pos | _=>none)
  | _=>none)
 | _=>none
noncomputable def jJ (K:ND) (f:Addr):Option (Addr × Pos × Str):=match K.lookup f with
 | some ⟨_,_,.func fd,_⟩=>(match E9 fd,fd.code with
  | some pos,.ref c=>(match K.lookup c with
   | some ⟨_,_,.fields vs,_⟩=>(match (vs[11]?:Option NI) with | some (.ref P)=>some (P,pos,fd.qualname++".<locals>." ++ "<lambda>") | _=>none)
   | _=>none)
  | _,_=>none)
 | _=>none
def gY (K:ND) (H:Hp):Prop:=∀f P,jJ K f=some P->tX H P
structure aK (K) (g) (α:List Addr) (H) (h:Hh):Prop where
 len:α.length=h.length
 inj:∀(n m:Nat) p , α[n]?=some p->α[m]?=some p->n=m
 here:∀(n:Nat) p o , α[n]?=some p->h[n]?=some o->OAt K g α H p o
 tab:gY K H
section
variable {K:ND}{g:Str->Option Addr}{α α':List Addr}{H H':Hp}{h:Hh}
def Paired.KD (e:Ex0 K α H α' H') (r:Paired (fun(a:Key × D) (b:Key × V)=>a.1=b.1/\aC K g α H a.2 b.2) kvs kws) :
  Paired (fun(a:Key × D) (b:Key × V)=>a.1=b.1/\aC K g α' H' a.2 b.2) kvs kws:=L2.Paired.oY r fun _ _ q=>⟨q.1,q.2.ex0 e⟩
def Paired.JO (e:Ex0 K α H α' H') (r:Paired (fun(a:List Key × D) (b:List Key × V)=>a.1=b.1/\aC K g α H a.2 b.2) kvs kws) :
  Paired (fun(a:List Key × D) (b:List Key × V)=>a.1=b.1/\aC K g α' H' a.2 b.2) kvs kws:=L2.Paired.oY r fun _ _ q=>⟨q.1,q.2.ex0 e⟩
def tX.mono (t:tX H P) (a:∀b ps,H b=some (.tbl ps)->H' b=some (.tbl ps)) (z:∀b o u,H b=some (.frz o u)->H' b=some (.frz o u)):tX H' P:=by
 rcases t with h | ⟨c',oc,vc,tk,h,hc,hd⟩
 ·exact .inl (a _ _ h)
 ·exact .inr ⟨c',oc,vc,tk,a _ _ h,z _ _ _ hc,hd⟩
theorem gY.mono (t:gY K H) (a:∀b ps,H b=some (.tbl ps)->H' b=some (.tbl ps)) (z:∀b o u,H b=some (.frz o u)->H' b=some (.frz o u)):gY K H':=fun f P e=>(t f P e).mono a z
theorem gY.upd (t:gY K H) (n:H p=none\/∃u,H p=some u/\(∀ys,u≠.tup ys)/\(∀w ys,u≠.frz w ys)/\∀ps,u≠.tbl ps):gY K (upd H p o):=by
 have ne:∀q u,H q=some u->((∃w ys,u=.frz w ys)\/∃ps,u=.tbl ps)->q≠p:=by
  grind
 intro f P e
 rcases t f P e with h | ⟨c',oc,vc,tk,h,hc,hd⟩
 ·exact .inl (by rw[aw (ne _ _ h (.inr ⟨_,rfl⟩))];exact h)
 ·exact .inr ⟨c',oc,vc,tk,by rw[aw (ne _ _ h (.inr ⟨_,rfl⟩))];exact h,by rw[aw (ne _ _ hc (.inl ⟨_,_,rfl⟩))];exact hc,hd⟩
def OAt.isS {p:Addr}{o:O} (h:OAt K g α H p o):∃u,H p=some u/\(∀ys,u≠.tup ys)/\(∀w ys,u≠.frz w ys)/\∀ps,u≠.tbl ps:=by
 cases o with
 | lst ds=>obtain⟨vs,e,_⟩:=h;simp_all
 | set n=>exact⟨_,h,fun _ z=>(nomatch z),fun _ _ z=>(nomatch z),fun _ z=>nomatch z⟩
 | dic kvs=>obtain⟨vs,e,_⟩:=h;simp_all
 | dit kvs=>obtain⟨vs,e,_⟩:=h;simp_all
def aK.mem (r:aK K g α H h) (hp:p∈α):∃u,H p=some u/\(∀ys,u≠.tup ys)/\(∀w ys,u≠.frz w ys)/\∀ps,u≠.tbl ps:=by
 obtain⟨n,hn,e⟩:=Pq hp
 have hn':n<h.length:=by rw[<- r.len];exact hn
 exact(r.here n p _ (by simp_all) (N0 hn')).isS
theorem OAt.ex0 (e:Ex0 K α H α' H') (h:OAt K g α H p o) (k:∀u,H p=some u->H' p=some u):OAt K g α' H' p o:=by
 cases o with
 | lst ds=>obtain⟨vs,a,r⟩:=h;exact⟨vs,k _ a,r.ex0 e⟩
 | set n=>exact k _ h
 | dic kvs=>obtain⟨kws,a,r⟩:=h;exact⟨kws,k _ a,Paired.KD e r⟩
 | dit kvs=>obtain⟨kws,a,r⟩:=h;exact⟨kws,k _ a,Paired.JO e r⟩
def Ei (H:Hp) (p:Addr):Prop:=H p=none\/∃u,H p=some u/\(∀ys,u≠.tup ys)/\(∀w ys,u≠.frz w ys)/\∀ps,u≠.tbl ps
theorem Ex0.upd (n:Ei H p):Ex0 K α H α (upd H p o):=by
 have ne:∀q u,H q=some u->((∃ys,u=.tup ys)\/(∃w ys,u=.frz w ys)\/∃ps,u=.tbl ps)->q≠p:=by
  rintro q u e z rfl
  rcases n with n | ⟨u',e',n1,n2,n3⟩
  ·simp_all
  simp_all
 refine⟨Qm _,fun q xs h=>?_,fun q o u h=>?_,fun q ps h=>⟨#[],?_⟩⟩
 ·rw[aw (ne q _ h (.inl ⟨_,rfl⟩))];exact h
 ·rw[aw (ne q _ h (.inr (.inl ⟨_,_,rfl⟩)))];exact h
 ·rw[aw (ne q _ h (.inr (.inr ⟨_,rfl⟩))),h];simp
def Ex0.more (e:Ex0 K α H α H') (l):Ex0 K α H (α++l) H':=⟨List.prefix_append _ _,e.tup,e.frz,e.tbl⟩
def Ext.fresh (n:H p=none):Ext K α H α (upd H p o):=⟨Ex0.upd (.inl n),fun q u h _ _=>by rw[aw (aE h n)];exact h,fun _ z m=>absurd z m⟩
def Ext.push (n:H p=none):Ext K α H (α++[p]) (upd H p o):=⟨(Ex0.upd (.inl n)).more _,fun q u h _ _=>by rw[aw (aE h n)];exact h,fun q z m=>by
 simp_all⟩
def aK.off (r:aK K g α H h) (n:Ei H p) (m:p∉α):aK K g α (upd H p o) h:=by
 refine⟨r.len,r.inj,fun k q u a b=>(r.here k q u a b).ex0 (Ex0.upd n) fun w e=>?_,r.tab.upd n⟩
 rw[aw];exact e
 grind
def aK.free (r:aK K g α H h) (n:H p=none):p∉α:=fun z=>by
 obtain⟨u,e,_⟩:=r.mem z
 simp_all
def aK.grow (r:aK K g α H h) (n:H p=none):aK K g α (upd H p o) h:=r.off (.inl n) (r.free n)
def aK.adopt (r:aK K g α H h) (n:p∉α) (a:OAt K g (α++[p]) H p u):aK K g (α++[p]) H (h++[u]):=by
 have old:∀{m:Nat} {q:Addr},(α++[p])[m]?=some q->(α[m]?=some q)\/(m=α.length/\q=p):=by
  grind
 refine⟨by simp[r.len],fun m k q h1 h2=>?_,fun m q w h1 h2=>?_,r.tab⟩
 ·rcases old h1 with a1 | ⟨e1,e2⟩
  ·rcases old h2 with a2 | ⟨e3,e4⟩
   ·exact r.inj m k q a1 a2
   grind
  grind
 ·rcases old h1 with a1 | ⟨e1,e2⟩
  ·have hm:m<α.length:=by
    grind
   rw[Oo (by rw[<- r.len];exact hm)] at h2
   exact(r.here m q w a1 h2).ex0 (Ex0.refl.more _) fun _ z=>z
  ·subst e1 e2
   rw[r.len] at h2
   simp_all
def aK.push (r:aK K g α H h) (n:H p=none) (a:OAt K g (α++[p]) (upd H p o) p u):aK K g (α++[p]) (upd H p o) (h++[u]):=(r.grow n).adopt (r.free n) a
def Ext.write {k:Nat} (r:aK K g α H h) (hk:α[k]?=some p):Ext K α H α (upd H p o):=
 ⟨Ex0.upd (.inr (r.mem (Oc hk))),fun q u h m _=>by
  rw[aw];exact h
  grind,fun _ z m=>absurd z m⟩
theorem aK.write (r:aK K g α H h) (hk:α[k]?=some p) (a:OAt K g α (upd H p o) p u'):aK K g α (upd H p o) (h.set k u'):=by
 have x:Ext K α H α (upd H p o):=Ext.write r hk
 refine⟨by simp[r.len],r.inj,fun m q w h1 h2=>?_,r.tab.upd (.inr (r.mem (Oc hk)))⟩
 rw[Ss] at h2
 by_cases hm:k=m
 ·simp_all
 ·rw[if_neg hm] at h2
  refine(r.here m q w h1 h2).ex0 x.toEx0 fun z e=>?_
  rw[aw];exact e
  rintro rfl;exact hm (r.inj _ _ _ hk h1)
end
noncomputable abbrev GG:=Str->Option Addr
noncomputable abbrev EE:=List Addr->Hp->Xc->Prop
structure iu (K) (g:GG) (α) (H) (env:En) (σ:St):Prop where
 len:env.length=σ.length
 vars:∀(i:Nat) d , env[i]?=some (some d)->∃v,σ[i]?=some (some v)/\aC K g α H d v
structure cM (K) (g:GG) (α) (H) (env) (σ) (h):Prop where
 heap:aK K g α H h
 vs:iu K g α H env σ
def WQ (K:ND) (g:GG) (ε:EE) (α:List Addr) (H:Hp){β:Type} (r:R β) (k:β->Hh->Prop):Prop:=match r with
 | .ok b h=>k b h
 | .err x h=>∀α' H',Ext K α H α' H'->aK K g α' H' h->ε α' H' x
 | .bad=>False
section
variable {K:ND}{g:GG}{ε:EE}{α α':List Addr}{H H':Hp}{β γ:Type}
theorem WQ.bind {f:β->Hh->R γ} (w:WQ K g ε α H (r.bind f) k):WQ K g ε α H r fun b h=>WQ K g ε α H (f b h) k:=by
 cases r<;>exact w
def WQ.ext (e:Ext K α H α' H') (w:WQ K g ε α H r k):WQ K g ε α' H' r k:=by
 cases r with
 | ok b h=>exact w
 | err x h=>exact fun a b c d=>w a b (e.trans c) d
 | bad=>exact w
def WQ.mono (w:WQ K g ε α H r k) (m:∀b h,r=.ok b h->k b h->k' b h):WQ K g ε α H r k':=by
 cases r with
 | ok b h=>exact m b h rfl w
 | err x h=>exact w
 | bad=>exact w
theorem iu.ext {env:En}{σ:St} (v:iu K g α H env σ) (e:Ext K α H α' H'):iu K g α' H' env σ:=
 ⟨v.len,fun i d h=>let ⟨x,a,b⟩:=v.vars i d h;⟨x,a,b.ext e⟩⟩
theorem cM.ext (v:cM K g α H env σ h) (e:Ext K α H α' H') (r:aK K g α' H' h'):cM K g α' H' env σ h':=⟨r,v.vs.ext e⟩
theorem iu.set (v:iu K g α H env σ) (r:aC K g α H d x):iu K g α H (env.set i (some d)) (σ.set i (some x)):=by
 refine⟨by simp[v.len],fun j e h=>?_⟩
 rw[Ss] at h ⊢
 by_cases hj:i=j
 ·subst hj
  rw[if_pos rfl] at h ⊢
  have hl:=v.len
  simp_all
 ·rw[if_neg hj] at h ⊢
  exact v.vars j e h
end
def aB (K:ND) (g:GG) (α:List Addr) (H:Hp) (Q:VK):D->Hh->Prop:=fun d h=>∀v H' α',Ext K α H α' H'->aK K g α' H' h->aC K g α' H' d v->Q v H'
def lD (K:ND) (g:GG) (α:List Addr) (H:Hp) (Q:Bool->Hp->Prop):Bool->Hh->Prop:=fun b h=>∀H' α',Ext K α H α' H'->aK K g α' H' h->Q b H'
def Jh (K:ND) (g:GG) (α:List Addr) (H:Hp) (Q:List V->Hp->Prop):List D->Hh->Prop:=fun ds h=>∀vs H' α',Ext K α H α' H'->aK K g α' H' h->ao K g α' H' ds vs->Q vs H'
def cH (K:ND) (g:GG) (α:List Addr) (H:Hp) (E:Ends):Fl->Hh->Prop:=fun fl h=>∀H' α',Ext K α H α' H'->aK K g α' H' h->match fl with
 | .nx e=>∀σ,iu K g α' H' e σ->E.nx σ H'
 | .bk e=>∀σ,iu K g α' H' e σ->E.bk σ H'
 | .ct e=>∀σ,iu K g α' H' e σ->E.ct σ H'
 | .rt d=>∀v,aC K g α' H' d v->E.rt v H'
noncomputable def tM (K:ND) (g:GG) (ε:EE) (m:ME):TE:=fun σ H Q=>∃α env h,cM K g α H env σ h/\WQ K g ε α H (m env h) (aB K g α H Q)
noncomputable def tMT (K:ND) (g:GG) (ε:EE) (m:MT):TT:=fun σ H Q=>∃α env h,cM K g α H env σ h/\WQ K g ε α H (m env h) (lD K g α H Q)
noncomputable def tMA (K:ND) (g:GG) (ε:EE) (m:MA):TA:=fun σ H Q=>∃α env h,cM K g α H env σ h/\WQ K g ε α H (m env h) (Jh K g α H Q)
noncomputable def tMS (K:ND) (g:GG) (ε:EE) (m:MS):TS:=fun E σ H=>∃α env h,cM K g α H env σ h/\WQ K g ε α H (m env h) (cH K g α H E)
section
variable {K:ND}{g:GG}{ε:EE}{α α':List Addr}{H H':Hp}{env:En}{σ:St}{h:Hh}
def aB.ext (e:Ext K α H α' H') (p:aB K g α H Q d h):aB K g α' H' Q d h:=fun v H2 α2 e2 r rd=>p v H2 α2 (e.trans e2) r rd
def lD.ext (e:Ext K α H α' H') (p:lD K g α H Q d h):lD K g α' H' Q d h:=fun H2 α2 e2 r=>p H2 α2 (e.trans e2) r
def cH.ext (e:Ext K α H α' H') (p:cH K g α H E d h):cH K g α' H' E d h:=fun H2 α2 e2 r=>p H2 α2 (e.trans e2) r
def WQ.post (e:Ext K α H α' H') (w:WQ K g ε α H r (aB K g α H Q)):WQ K g ε α' H' r (aB K g α' H' Q):=(w.ext e).mono fun _ _ _ p=>p.ext e
def WQ.Jx (e:Ext K α H α' H') (w:WQ K g ε α H r (lD K g α H Q)):WQ K g ε α' H' r (lD K g α' H' Q):=(w.ext e).mono fun _ _ _ p=>p.ext e
def WQ.ya (e:Ext K α H α' H') (w:WQ K g ε α H r (cH K g α H E)):WQ K g ε α' H' r (cH K g α' H' E):=(w.ext e).mono fun _ _ _ p=>p.ext e
def tM.use (s:cM K g α H env σ h) (w:WQ K g ε α H (m env h) k)
  (q:∀d h' v H' α',Ext K α H α' H'->cM K g α' H' env σ h'->aC K g α' H' d v->k d h'->Q v H'):tM K g ε m σ H Q:=
 ⟨α,env,h,s,w.mono fun d h' _ kk v H' α' e r rd=>q d h' v H' α' e (s.ext e r) rd kk⟩
def tMT.use (s:cM K g α H env σ h) (w:WQ K g ε α H (m env h) k)
  (q:∀d h' H' α',Ext K α H α' H'->cM K g α' H' env σ h'->k d h'->Q d H'):tMT K g ε m σ H Q:=
 ⟨α,env,h,s,w.mono fun d h' _ kk H' α' e r=>q d h' H' α' e (s.ext e r) kk⟩
def tMA.use (s:cM K g α H env σ h) (w:WQ K g ε α H (m env h) k)
  (q:∀d h' v H' α',Ext K α H α' H'->cM K g α' H' env σ h'->ao K g α' H' d v->k d h'->Q v H'):tMA K g ε m σ H Q:=
 ⟨α,env,h,s,w.mono fun d h' _ kk v H' α' e r rd=>q d h' v H' α' e (s.ext e r) rd kk⟩
def aB.now (p:aB K g α H Q d h) (r:aK K g α H h) (rd:aC K g α H d v):Q v H:=p v H α Ext.refl r rd
end
def PE.imp (h:PE X e t) (i:∀σ H Q,t' σ H Q->t σ H Q):PE X e t':=fun pins s σ H Q I w=>h pins s σ H Q I (i σ H Q w)
def PT.imp (h:PT X e t) (i:∀σ H Q,t' σ H Q->t σ H Q):PT X e t':=fun pins s σ H Q I w=>h pins s σ H Q I (i σ H Q w)
def PW.imp (h:PW X e t) (i:∀σ H Q,t' σ H Q->t σ H Q):PW X e t':=fun wh pins s σ H Q I w=>h wh pins s σ H Q I (i σ H Q w)
def PA.imp (h:PA X e t) (i:∀σ H Q,t' σ H Q->t σ H Q):PA X e t':=fun p pins s σ H Q I w=>h p pins s σ H Q I (i σ H Q w)
def PS.imp (h:PS X e t) (i:∀σ H Q,t' σ H Q->t σ H Q):PS X e t':=fun pins s σ H Q I w=>h pins s σ H Q I (i Q σ H w)
def PSs.imp (h:PSs X e t) (i:∀σ H Q,t' σ H Q->t σ H Q):PSs X e t':=fun pins s σ H Q I w=>h pins s σ H Q I (i Q σ H w)
noncomputable def af (i:Nat):ME:=fun env h=>match env[i]? with
 | some (some d)=>.ok d h
 | _=>.bad
noncomputable def cC (d:D):ME:=fun _ h=>.ok d h
noncomputable def av (f:D->D->Hh->R D) (a b:ME):ME:=fun env h=>(a env h).bind fun x h1=>(b env h1).bind fun y h2=>f x y h2
noncomputable def cUn (f:D->Hh->R D) (a:ME):ME:=fun env h=>(a env h).bind fun x h1=>f x h1
noncomputable def ak:MA:=fun _ h=>.ok [] h
noncomputable def aa (a:ME) (r:MA):MA:=fun env h=>(a env h).bind fun x h1=>(r env h1).bind fun xs h2=>.ok (x::xs) h2
noncomputable def ah (f:List D->Hh->R D) (a:MA):ME:=fun env h=>(a env h).bind fun xs h1=>f xs h1
noncomputable def aJ (f:D->Hh->R Bool) (a:ME):MT:=fun env h=>(a env h).bind fun x h1=>f x h1
noncomputable def iF (a:MT):MT:=fun env h=>(a env h).bind fun b h1=>.ok (!b) h1
noncomputable def Br (a b:MT):MT:=fun env h=>(a env h).bind fun x h1=>if x=true then b env h1 else .ok false h1
noncomputable def qN (a b:MT):MT:=fun env h=>(a env h).bind fun x h1=>if x=true then .ok true h1 else b env h1
noncomputable def cIf (c:MT) (a b:ME):ME:=fun env h=>(c env h).bind fun x h1=>if x=true then a env h1 else b env h1
noncomputable def asB:D->Hh->R Bool
 | .bl b,h=>.ok b h
 | _,_=>.bad
noncomputable def ye (a b:ME):ME:=fun env h=>(a env h).bind fun x h1=>(asB x h1).bind fun k h2=>if k=true then b env h2 else .ok (.bl false) h2
noncomputable def FJ (a:ME):ME:=fun env h=>(a env h).bind fun x h1=>(asB x h1).bind fun k h2=>.ok (.bl (!k)) h2
noncomputable def kC (f f':D->D->Hh->R D) (a b c:ME):ME:=fun env h=>(a env h).bind fun x h1=>(b env h1).bind fun y h2=>(f x y h2).bind fun z h3=>(asB z h3).bind fun k h4=>
 if k=true then (c env h4).bind fun w h5=>f' y w h5 else .ok (.bl false) h4
def dz (K:ND) (g:GG) (ε:EE) (f:D->D->Hh->R D) (r:R2):Prop:=
 ∀α H h a b x y Q , aK K g α H h->aC K g α H a x->aC K g α H b y->WQ K g ε α H (f a b h) (aB K g α H Q)->r x y H Q
def KJ (K:ND) (g:GG) (ε:EE) (f:D->Hh->R D) (r:V->Hp->VK->Prop):Prop:=
 ∀α H h a x Q , aK K g α H h->aC K g α H a x->WQ K g ε α H (f a h) (aB K g α H Q)->r x H Q
def JE (K:ND) (g:GG) (ε:EE) (f:D->Hh->R Bool) (r:V->Hp->(Bool->Hp->Prop)->Prop):Prop:=
 ∀α H h a x Q , aK K g α H h->aC K g α H a x->WQ K g ε α H (f a h) (lD K g α H Q)->r x H Q
def kF (K:ND) (g:GG) (ε:EE) (f:List D->Hh->R D) (r:List V->Hp->VK->Prop):Prop:=
 ∀α H h a x Q , aK K g α H h->ao K g α H a x->WQ K g ε α H (f a h) (aB K g α H Q)->r x H Q
def CV (K:ND) (g:GG) (ε:EE) (f:D->List D->Hh->R D) (r:V->List V->Hp->VK->Prop):Prop:=
 ∀α H h o a y x Q , aK K g α H h->aC K g α H o y->ao K g α H a x->WQ K g ε α H (f o a h) (aB K g α H Q)->r y x H Q
section
variable {X:Cx}{g:GG}{ε:EE}{a b c:Expr}{ma mb mc:ME}{pos:Pos}
def ae (i:Nat){x:Str}{pos:Pos} (hN:X.N[i]?=some x:=by rfl) (hv:Vis X.env.scope x:=by first | exact Up rfl | exact Or.inr (Up rfl) | exact Or.inr (Or.inr rfl)) (hd:(x == ("__debug__" : Str))=false:=by decide)
  (hcd:(x == ("__classdict__" : Str))=false:=by decide):PE X (.Name x pos) (tM X.K g ε (af i)):=by
 refine PE.imp (Bs hN hv hd hcd) fun σ H Q ⟨α,env,h,s,w⟩=>?_
 unfold af at w
 cases e:env[i]? with
 | none=>rw[e] at w;exact w.elim
 | some d=>
  cases d with
  | none=>rw[e] at w;exact w.elim
  | some d=>
   rw[e] at w
   obtain⟨v,hv,rd⟩:=s.vs.vars i d e
   exact⟨v,hv,aB.now w s.heap rd⟩
def xX (rd:∀α,aC X.K g α H d v) (t:tM X.K g ε (cC d) σ H Q):tC v σ H Q:=by
 obtain⟨α,env,h,s,w⟩:=t
 exact aB.now w s.heap (rd α)
def au:PE X (.Constant (.int i) j pos) (tM X.K g ε (cC (.int i))):=PE.imp Hu fun _ _ _ t=>xX (fun _=>.int i) t
def jM:PE X (.Constant (.bool i) j pos) (tM X.K g ε (cC (.bl i))):=PE.imp K_ fun _ _ _ t=>xX (fun _=>.bl i) t
def eQ:PE X (.Constant (.str i) j pos) (tM X.K g ε (cC (.str i))):=PE.imp Ii fun _ _ _ t=>xX (fun _=>.str i) t
def js (hg:Gl X x) (hm:X.mg x=some (.int i t)) (hd:(x == ("__debug__" : Str))=false:=by decide):PE X (.Name x pos) (tM X.K g ε (cC (.int i))):=
 PE.imp (EK (v:=.int i) hg hm ⟨t,rfl⟩ hd) fun _ _ _ t=>xX (fun _=>.int i) t
def rO {K:ND} (im:dz K g ε f r) (t:tM K g ε (av f ma mb) σ H Q):tOp r (tM K g ε ma) (tM K g ε mb) σ H Q:=by
 obtain⟨α,env,h,s,w⟩:=t
 refine tM.use s w.bind fun d1 h1 v1 H1 α1 e1 s1 r1 w1=>?_
 refine tM.use s1 (w1.ext e1).bind fun d2 h2 v2 H2 α2 e2 s2 r2 w2=>?_
 exact im α2 H2 h2 d1 d2 v1 v2 Q s2.heap (r1.ext e2) r2 ((w2.ext e2).mono fun _ _ _ p=>p.ext (e1.trans e2))
def kJ (ho:OpR X (binaryOp op) r) (im:dz X.K g ε f r) (ha:PE X a (tM X.K g ε ma)) (hb:PE X b (tM X.K g ε mb)):PE X (.BinOp a op b pos) (tM X.K g ε (av f ma mb)):=
 PE.imp (JF ho ha hb) fun _ _ _ t=>rO im t
def rD (ho:OpR X (compareOp op) r) (im:dz X.K g ε f r) (ha:PE X a (tM X.K g ε ma)) (hb:PE X b (tM X.K g ε mb)) (hm:behindInMarks op b=false):PE X (.Compare a [op] [b] pos) (tM X.K g ε (av f ma mb)):=
 PE.imp (DQ ho ha hb hm) fun _ _ _ t=>rO im t
def uy {K:ND} (ht:∀σ H Q,tM K g ε m σ H Q->t σ H Q) (w:tMT K g ε (aJ asB m) σ H Q):Ap t σ H Q:=by
 obtain⟨α,env,h,s,w⟩:=w
 refine ht _ _ _ (tM.use s w.bind fun d1 h1 v1 H1 α1 e1 s1 r1 w1=>?_)
 cases r1 with
 | bl k=>exact⟨k,rfl,w1 H1 α1 e1 s1.heap⟩
 | _=>exact w1.elim
def cS (ho:OpR X (compareOp op) r) (im:dz X.K g ε f r) (ha:PE X a (tM X.K g ε ma)) (hb:PE X b (tM X.K g ε mb)) (hm:behindInMarks op b=false):PT X (.Compare a [op] [b] pos) (tMT X.K g ε (aJ asB (av f ma mb))):=
 PT.imp (DS ho ha hb hm) fun _ _ _ t=>uy (fun _ _ _ u=>rO im u) t
def qp {K:ND} (im:dz K g ε f r) (im':dz K g ε f' r') (t:tM K g ε (kC f f' ma mb mc) σ H Q):vV r r' (tM K g ε ma) (tM K g ε mb) (tM K g ε mc) σ H Q:=by
 obtain⟨α,env,h,s,w⟩:=t
 refine tM.use s w.bind fun d1 h1 v1 H1 α1 e1 s1 r1 w1=>?_
 refine tM.use s1 (w1.ext e1).bind fun d2 h2 v2 H2 α2 e2 s2 r2 w2=>?_
 refine im α2 H2 h2 d1 d2 v1 v2 _ s2.heap (r1.ext e2) r2 ((w2.ext e2).bind.mono fun z h3 _ w3 v3 H3 α3 e3 hr3 r3=>?_)
 have w4:=w3.bind
 cases r3 with
 | bl k=>
  refine⟨k,rfl,?_⟩
  have s3:=s2.ext e3 hr3
  cases k with
  | true=>
   have w5:WQ K g ε α2 H2 ((mc env h3).bind fun w h5=>f' d2 w h5) _:=w4
   refine tM.use s3 (w5.ext e3).bind fun d4 h4 v4 H4 α4 e4 s4 r4 w6=>?_
   exact im' α4 H4 h4 d2 d4 v2 v4 Q s4.heap (r2.ext (e3.trans e4)) r4 ((w6.ext e4).mono fun _ _ _ p=>p.ext (e1.trans (e2.trans (e3.trans e4))))
  | false=>
   have w5:=w4
   exact w5 _ H3 α3 (e1.trans (e2.trans e3)) s3.heap (.bl false)
 | _=>exact w4.elim
def AR (ho:OpR X (compareOp op) r) (ho':OpR X (compareOp op') r') (im:dz X.K g ε f r) (im':dz X.K g ε f' r') (ha:PE X a (tM X.K g ε ma)) (hb:PE X b (tM X.K g ε mb)) (hc:PE X c (tM X.K g ε mc))
  (hm:lastMarks [op,op'] [b,c]=false:=by with_unfolding_all rfl):PE X (.Compare a [op,op'] [b,c] pos) (tM X.K g ε (kC f f' ma mb mc)):=PE.imp (AN ho ho' ha hb hc hm) fun _ _ _ t=>qp im im' t
def CN (ho:OpR X (compareOp op) r) (ho':OpR X (compareOp op') r') (im:dz X.K g ε f r) (im':dz X.K g ε f' r') (ha:PE X a (tM X.K g ε ma)) (hb:PE X b (tM X.K g ε mb)) (hc:PE X c (tM X.K g ε mc))
  (hm:lastMarks [op,op'] [b,c]=false:=by with_unfolding_all rfl):PT X (.Compare a [op,op'] [b,c] pos) (tMT X.K g ε (aJ asB (kC f f' ma mb mc))):=PT.imp (Cj ho ho' ha hb hc hm) fun _ _ _ t=>uy (fun _ _ _ u=>qp im im' u) t
def Cu {op:UnaryOp}{r:V->Hp->VK->Prop}{f:D->Hh->R D} (ho:UnR X (unaryOp op) r) (im:KJ X.K g ε f r) (ha:PE X a (tM X.K g ε ma)):PE X (.UnaryOp op a pos) (tM X.K g ε (cUn f ma)):=
 PE.imp (Kh ho ha) fun σ H Q ⟨α,env,h,s,w⟩=>tM.use s w.bind fun d1 h1 v1 H1 α1 e1 s1 r1 w1=>im α1 H1 h1 d1 v1 Q s1.heap r1 (w1.post e1)
def KC (hr:IxR X r) (im:dz X.K g ε f r) (ha:PE X a (tM X.K g ε ma)) (hb:PE X b (tM X.K g ε mb)) (hs:yA b):PE X (.Subscript a b pos) (tM X.K g ε (av f ma mb)):=
 PE.imp (JL hr ha hb hs) fun _ _ _ t=>rO im t
def fH {f:D->Hh->R Bool} (im:JE X.K g ε f (fun x H Q=>∃k,Fj X.K x H k/\Q k H)) (ha:PE X a (tM X.K g ε ma)) (he:∀whole,isTrue a X.env whole=(do let v ← whole;standAt a.pos;holding [v] (truthy v))):PT X a (tMT X.K g ε (aJ f ma)):=
 PT.imp (B4 ha he) fun σ H Q ⟨α,env,h,s,w⟩=>tM.use s w.bind fun d1 h1 v1 H1 α1 e1 s1 r1 w1=>im α1 H1 h1 d1 v1 Q s1.heap r1 (w1.Jx e1)
def mY {mt:MT} (ha:PT X a (tMT X.K g ε mt)):PT X (.UnaryOp .Not a pos) (tMT X.K g ε (iF mt)):=
 PT.imp (Ia ha) fun σ H Q ⟨α,env,h,s,w⟩=>tMT.use s w.bind fun d1 h1 H1 α1 e1 s1 w1=>w1 H1 α1 e1 s1.heap
end
section
variable {X:Cx}{g:GG}{ε:EE}{a b c e:Expr}{es:List Expr}{rest:List Expr}{ma mb mc me:ME}{mt mu:MT}{pos:Pos}
def DR (ha:PT X a (tMT X.K g ε mt)):PW X (.BoolOp .And [a] pos) (tMT X.K g ε mt):=pw_and1 ha
def vP (ha:PT X a (tMT X.K g ε mt)):PW X (.BoolOp .Or [a] pos) (tMT X.K g ε mt):=pw_or1 ha
def GY (ha:PT X a (tMT X.K g ε mt)) (hb:PW X (.BoolOp .And (b::rest) pos) (tMT X.K g ε mu)):PW X (.BoolOp .And (a::b::rest) pos) (tMT X.K g ε (Br mt mu)):=
 PW.imp (pw_and ha hb) fun σ H Q ⟨α,env,h,s,w⟩=>tMT.use s w.bind fun d1 h1 H1 α1 e1 s1 w1=>by
  cases d1 with
  | true=>rw[if_pos rfl] at w1 ⊢;exact tMT.use s1 (w1.ext e1) fun d2 h2 H2 α2 e2 s2 w2=>w2 H2 α2 (e1.trans e2) s2.heap
  | false=>rw[if_neg Og] at w1 ⊢;exact w1 H1 α1 e1 s1.heap
def xS (ha:PT X a (tMT X.K g ε mt)) (hb:PW X (.BoolOp .Or (b::rest) pos) (tMT X.K g ε mu)):PW X (.BoolOp .Or (a::b::rest) pos) (tMT X.K g ε (qN mt mu)):=
 PW.imp (pw_or ha hb) fun σ H Q ⟨α,env,h,s,w⟩=>tMT.use s w.bind fun d1 h1 H1 α1 e1 s1 w1=>by
  cases d1 with
  | true=>rw[if_pos rfl] at w1 ⊢;exact w1 H1 α1 e1 s1.heap
  | false=>rw[if_neg Og] at w1 ⊢;exact tMT.use s1 (w1.ext e1) fun d2 h2 H2 α2 e2 s2 w2=>w2 H2 α2 (e1.trans e2) s2.heap
def jf (hc:PT X c (tMT X.K g ε mt)) (ha:PE X a (tM X.K g ε ma)) (hb:PE X b (tM X.K g ε mb)):PE X (.IfExp c a b pos) (tM X.K g ε (cIf mt ma mb)):=
 PE.imp (BC hc ha hb) fun σ H Q ⟨α,env,h,s,w⟩=>tMT.use s w.bind fun d1 h1 H1 α1 e1 s1 w1=>by
  cases d1 with
  | true=>rw[if_pos rfl] at w1 ⊢;exact tM.use s1 (w1.ext e1) fun d2 h2 v2 H2 α2 e2 s2 r2 w2=>w2 v2 H2 α2 (e1.trans e2) s2.heap r2
  | false=>rw[if_neg Og] at w1 ⊢;exact tM.use s1 (w1.ext e1) fun d2 h2 v2 H2 α2 e2 s2 r2 w2=>w2 v2 H2 α2 (e1.trans e2) s2.heap r2
def CU (h:PE X a (tM X.K g ε ma)):PE X (.BoolOp op [a] pos) (tM X.K g ε ma):=IM h
def Dl {K:ND}{k:β->Hh->Prop} (r:aC K g α1 H1 d v) (w:WQ K g ε α H ((asB d h).bind f) k):∃b,v=.bl b/\d=.bl b/\WQ K g ε α H (f b h) k:=by
 cases r with
 | bl b=>exact⟨b,rfl,rfl,w⟩
 | _=>exact w.elim
def BB (ha:PE X a (tM X.K g ε ma)) (hb:PE X (.BoolOp .And (b::rest) pos) (tM X.K g ε mb)):PE X (.BoolOp .And (a::b::rest) pos) (tM X.K g ε (ye ma mb)):=
 PE.imp (G6 ha hb) fun σ H Q ⟨α,env,h,s,w⟩=>tM.use s w.bind fun d1 h1 v1 H1 α1 e1 s1 r1 w1=>by
  obtain⟨k,rfl,rfl,w2⟩:=Dl r1 w1
  refine⟨k,rfl,?_⟩
  cases k with
  | true=>rw[if_pos rfl] at w2 ⊢;exact tM.use s1 (w2.ext e1) fun d2 h2 v2 H2 α2 e2 s2 r2 w2=>w2 v2 H2 α2 (e1.trans e2) s2.heap r2
  | false=>rw[if_neg Og] at w2 ⊢;exact w2 _ H1 α1 e1 s1.heap (.bl false)
def Hl (ha:PE X a (tM X.K g ε ma)):PE X (.UnaryOp .Not a pos) (tM X.K g ε (FJ ma)):=
 PE.imp (Gw ha) fun σ H Q ⟨α,env,h,s,w⟩=>tM.use s w.bind fun d1 h1 v1 H1 α1 e1 s1 r1 w1=>by
  obtain⟨k,rfl,rfl,w2⟩:=Dl r1 w1
  exact⟨k,rfl,w2 _ H1 α1 e1 s1.heap (.bl _)⟩
variable {mr:MA}
def ai:PA X [] (tMA X.K g ε ak):=PA.imp gF fun σ H Q ⟨α,env,h,s,w⟩=>w [] H α Ext.refl s.heap .nil
def EH (ha:PE X e (tM X.K g ε ma)) (hr:PA X es (tMA X.K g ε mr)) (hs:starEach (e::es) X.env=(false,eval e X.env)::starEach es X.env:=by rfl):PA X (e::es) (tMA X.K g ε (aa ma mr)):=
 PA.imp (c4 ha hr hs) fun σ H Q ⟨α,env,h,s,w⟩=>tM.use s w.bind fun d1 h1 v1 H1 α1 e1 s1 r1 w1=>tMA.use s1 (w1.ext e1).bind fun d2 h2 v2 H2 α2 e2 s2 r2 w2=>w2 _ H2 α2 (e1.trans e2) s2.heap (.cons (r1.ext e2) r2)
noncomputable def cn:List D->Hh->R D:=fun ds h=>if ds.length<=1000000 then .ok (.tup ds) h else .bad
theorem aB.tup {K:ND}{α:List Addr}{H:Hp}{h:Hh}{ds:List D}{vs:List V}{Q:VK}{p:Addr} (w:aB K g α H Q (.tup ds) h) (r:aK K g α H h) (rd:ao K g α H ds vs) (n:H p=none):Q (.ref p) (upd H p (.tup vs)):=
 w _ _ α (Ext.fresh n) (r.grow n) (.tup aL (rd.ext (Ext.fresh n)))
def WQ.cO {K:ND}{α:List Addr}{H:Hp}{β:Type}{c:Prop} [Decidable c]{r:R β}{k:β->Hh->Prop} (w:WQ K g ε α H (if c then r else .bad) k):c/\WQ K g ε α H r k:=by
 by_cases h:c
 ·simp_all
 ·rw[if_neg h] at w;exact w.elim
def eZ (h:n<=1000000):n<=sizeLine:=by rw[OY];omega
def GC {x1} (ha:PA X es (tMA X.K g ε mr)):PE X (.Tuple es x1 pos) (tM X.K g ε (ah cn mr)):=
 PE.imp (HF ha) fun σ H Q ⟨α,env,h,s,w⟩=>tMA.use s w.bind fun d1 h1 v1 H1 α1 e1 s1 r1 w1=>by
  obtain⟨hl,w2⟩:=WQ.cO w1
  exact⟨eZ (by rw[<- r1.length];exact hl),fun p hp=>aB.tup (aB.ext e1 w2) s1.heap r1 hp⟩
def vx {K:ND} (im:kF K g ε f r) (t:tM K g ε (ah f mr) σ H Q):tCB r (tMA K g ε mr) σ H Q:=by
 obtain⟨α,env,h,s,w⟩:=t
 exact tMA.use s w.bind fun d1 h1 v1 H1 α1 e1 s1 r1 w1=>im α1 H1 h1 d1 v1 Q s1.heap r1 (w1.post e1)
def aO {id:String}{p:Pos} (hc:aV X (.builtin id) r) (im:kF X.K g ε f r) (hg:Gl X x) (hm:X.mg x=none) (hv:bootBuiltins x=some (.builtin id)) (ha:PA X (e::es) (tMA X.K g ε mr)) (hn:x≠"__name__" := by decide) (hdb:(x == ("__debug__" : Str))=false:=by decide)
  (he:starEach (e::es) X.env=(false,eval e X.env)::starEach es X.env:=by rfl) (hpl:(backTo pos (starEach es X.env)).any (·.1)=false:=by rfl):PE X (.Call (.Name x p) (e::es) [] pos) (tM X.K g ε (ah f mr)):=
 PE.imp (gG hc hg hm hv ha hn hdb he hpl) fun _ _ _ t=>vx im t
def fL {id:String}{p:Pos} (hc:aV X (.type id) r) (im:kF X.K g ε f r) (hg:Gl X x) (hm:X.mg x=none) (hv:bootBuiltins x=some (.type id)) (ha:PA X (e::es) (tMA X.K g ε mr)) (hn:x≠"__name__" := by decide) (hdb:(x == ("__debug__" : Str))=false:=by decide)
  (he:starEach (e::es) X.env=(false,eval e X.env)::starEach es X.env:=by rfl) (hpl:(backTo pos (starEach es X.env)).any (·.1)=false:=by rfl):PE X (.Call (.Name x p) (e::es) [] pos) (tM X.K g ε (ah f mr)):=
 PE.imp (ik hc hg hm hv ha hn hdb he hpl) fun _ _ _ t=>vx im t
end
noncomputable def cF:MS:=fun env h=>.ok (.nx env) h
noncomputable def aH (a b:MS):MS:=fun env h=>(a env h).bind fun fl h1=>match fl with
 | .nx e=>b e h1
 | fl=>.ok fl h1
noncomputable def eB (a:ME):MS:=fun env h=>(a env h).bind fun _ h1=>.ok (.nx env) h1
noncomputable def a9 (a:ME):MS:=fun env h=>(a env h).bind fun d h1=>.ok (.rt d) h1
noncomputable def eV (c:MT) (a b:MS):MS:=fun env h=>(c env h).bind fun x h1=>if x=true then a env h1 else b env h1
noncomputable def aW (i:Nat) (a:ME):MS:=fun env h=>(a env h).bind fun d h1=>.ok (.nx (env.set i (some d))) h1
noncomputable def i3 (f:D->D->D->Hh->R Unit) (o i v:ME):MS:=fun env h=>(v env h).bind fun x h1=>(o env h1).bind fun y h2=>(i env h2).bind fun z h3=>(f y z x h3).bind fun _ h4=>.ok (.nx env) h4
section
variable {X:Cx}{g:GG}{ε:EE}{e:Expr}{me:ME}{ms mu:MS}{mt:MT}{st:Stmt}{rest:List Stmt}{pos:Pos}
theorem cM.nx {K:ND} (s:cM K g α' H' env σ h') (e:Ext K α H α' H') (w:cH K g α H E (.nx env) h'):E.nx σ H':=w H' α' e s.heap σ s.vs
def cy:PSs X [] (tMS X.K g ε cF):=PSs.imp Eg fun E σ H ⟨α,env,h,s,w⟩=>s.nx Ext.refl w
def tMS.use {K:ND} (s:cM K g α H env σ h) (w:WQ K g ε α H (m env h) k)
  (q:∀fl h' H' α',Ext K α H α' H'->aK K g α' H' h'->k fl h'->match fl with
   | .nx e=>∀σ',cM K g α' H' e σ' h'->E.nx σ' H'
   | .bk e=>∀σ',cM K g α' H' e σ' h'->E.bk σ' H'
   | .ct e=>∀σ',cM K g α' H' e σ' h'->E.ct σ' H'
   | .rt d=>∀v,aC K g α' H' d v->E.rt v H'):tMS K g ε m E σ H:=
 ⟨α,env,h,s,w.mono fun fl h' _ kk H' α' e r=>by
  have:=q fl h' H' α' e r kk
  cases fl with
  | nx e=>exact fun σ' v=>this σ' ⟨r,v⟩
  | bk e=>exact fun σ' v=>this σ' ⟨r,v⟩
  | ct e=>exact fun σ' v=>this σ' ⟨r,v⟩
  | rt d=>omega⟩
def DB (h1:PS X st (tMS X.K g ε ms)) (h2:PSs X rest (tMS X.K g ε mu)):PSs X (st::rest) (tMS X.K g ε (aH ms mu)):=
 PSs.imp (AH h1 h2) fun E σ H ⟨α,env,h,s,w⟩=>tMS.use s w.bind fun fl h' H' α' e r kk=>by
  cases fl with
  | nx env'=>exact fun σ' s'=>⟨α',env',h',s',WQ.ya e kk⟩
  | bk env'=>exact fun σ' s'=>(show cH X.K g α H E (.bk env') h' from kk) H' α' e r σ' s'.vs
  | ct env'=>exact fun σ' s'=>(show cH X.K g α H E (.ct env') h' from kk) H' α' e r σ' s'.vs
  | rt d=>exact fun v rv=>(show cH X.K g α H E (.rt d) h' from kk) H' α' e r v rv
def Ho (h1:PS X st (tMS X.K g ε ms)):PSs X [st] (tMS X.K g ε ms):=xY h1
def fC (he:PE X e (tM X.K g ε me)) (hs:swapsWith e none pos.line X.env=pure false:=by rfl):PS X (.Expr e pos) (tMS X.K g ε (eB me)):=
 PS.imp (Dn he hs) fun E σ H ⟨α,env,h,s,w⟩=>tM.use s w.bind fun d1 h1 v1 H1 α1 e1 s1 r1 w1=>s1.nx e1 w1
def Kl (he:PE X e (tM X.K g ε me)):PS X (.Return (some e) pos) (tMS X.K g ε (a9 me)):=
 PS.imp (Cy he) fun E σ H ⟨α,env,h,s,w⟩=>tM.use s w.bind fun d1 h1 v1 H1 α1 e1 s1 r1 w1=>(show cH X.K g α H E (.rt d1) h1 from w1) H1 α1 e1 s1.heap v1 r1
def kQ {c:Expr}{A B:List Stmt} (hc:PT X c (tMT X.K g ε mt)) (ha:PSs X A (tMS X.K g ε ms)) (hb:PSs X B (tMS X.K g ε mu)):PS X (.If c A B pos) (tMS X.K g ε (eV mt ms mu)):=
 PS.imp (JP hc ha hb) fun E σ H ⟨α,env,h,s,w⟩=>tMT.use s w.bind fun d1 h1 H1 α1 e1 s1 w1=>by
  cases d1 with
  | true=>rw[if_pos rfl] at w1 ⊢;exact⟨α1,env,h1,s1,WQ.ya e1 w1⟩
  | false=>rw[if_neg Og] at w1 ⊢;exact⟨α1,env,h1,s1,WQ.ya e1 w1⟩
def JW {i:Nat}{x:Str}{pos':Pos} (hN:X.N.Nodup) (hi:X.N[i]?=some x) (hx:Loc X.env.scope x) (he:PE X e (tM X.K g ε me)) (hs:swapsWith e (some (.Name x pos')) pos.line X.env=pure false:=by rfl) (hf:X.fn x=true\/X.env.scope.names.lookup x=some .local:=by first | exact .inl rfl | exact .inr rfl | assumption) :
  PS X (.Assign [.Name x pos'] e pos) (tMS X.K g ε (aW i me)):=
 PS.imp (Gy hN hi hx he hs hf) fun E σ H ⟨α,env,h,s,w⟩=>tM.use s w.bind fun d1 h1 v1 H1 α1 e1 s1 r1 w1=>(show cH X.K g α H E (.nx (env.set i (some d1))) h1 from w1) H1 α1 e1 s1.heap _ (s1.vs.set r1)
def Jk (K:ND) (g:GG) (ε:EE) (f:D->D->D->Hh->R Unit) (t:vR):Prop:=
 ∀α H h o i v x y z Q , aK K g α H h->aC K g α H o x->aC K g α H i y->aC K g α H v z->WQ K g ε α H (f o i v h) (fun _ h'=>∀H' α',Ext K α H α' H'->aK K g α' H' h'->Q H')->t x y z H Q
def yd {o i:Expr}{mo mi:ME}{t:vR}{f:D->D->D->Hh->R Unit}{p:Pos} (he:PE X e (tM X.K g ε me)) (ho:PE X o (tM X.K g ε mo)) (hi:PE X i (tM X.K g ε mi)) (hp:EU X t) (im:Jk X.K g ε f t)
  (ha:∀v,assign (.Subscript o i p) X.env v=(do
   let ov ← holding [v] (eval o X.env)
   let iv ← holding [v,ov] (eval i X.env)
   standAt p
   holding [v,ov,iv] (setItem ov iv v)
   release [v,ov,iv] []):=by intro _;rfl)
  (hs:swapsWithSole [.Subscript o i p] e pos.line X.env=pure false:=by rfl) (hw:swappedStores [.Subscript o i p] e X.env=pure none:=by rfl)
  (h1:(assignEach [.Subscript o i p] X.env).map (·.2)=[assign (.Subscript o i p) X.env]:=by rfl):PS X (.Assign [.Subscript o i p] e pos) (tMS X.K g ε (i3 f mo mi me)):=
 PS.imp (Ik he (GW ho hi hp ha) hs hw h1) fun E σ H ⟨α,env,h,s,w⟩=>tM.use s w.bind fun d1 h1 v1 H1 α1 e1 s1 r1 w1=>tM.use s1 (w1.ext e1).bind fun d2 h2 v2 H2 α2 e2 s2 r2 w2=>tM.use s2 (w2.ext e2).bind fun d3 h3 v3 H3 α3 e3 s3 r3 w3=>by
  refine im α3 H3 h3 d2 d3 d1 v2 v3 v1 _ s3.heap (r2.ext e3) r3 ((r1.ext e2).ext e3) ((w3.ext e3).bind.mono fun _ h4 _ w4 H4 α4 e4 hr4=>?_)
  exact(show cH X.K g α H E (.nx env) h4 from w4) H4 α4 (e1.trans (e2.trans (e3.trans e4))) hr4 _ (s3.vs.ext e4)
end
def yx {σ:St} (I:Inv X pins σ H s) (h:H p=some u) (mu:Mut (some u)):∃o,Inv X pins σ (upd H p (.frz o u)) s:=by
 obtain⟨o,ho⟩:∃o,s.heap.get? p=some o:=by
  cases e:s.heap.get? p with
  | some o=>simp
  | none=>
   have q:=I.hok p _ h
   cases u with
   | lst xs=>obtain⟨_,_,_,_,e'⟩:=q;simp_all
   | dK kvs=>obtain⟨_,_,_,_,o,_,_,e',_⟩:=q;simp_all
   | dT kvs=>obtain⟨_,_,_,_,o,_,_,e',_⟩:=q;simp_all
   | set S n=>obtain⟨o,_,_,_,e',_⟩:=q;simp_all
   | ins C dx fs=>obtain⟨_,_,_,e',_⟩:=q;simp_all
   | ext φ=>obtain⟨_,⟨_,e'⟩,_⟩:=q;simp_all
   | _=>exact absurd mu (fun z=>z)
 have nt:∀b xs,H b=some (.tup xs)->b≠p:=fun b xs e z=>by subst z;rw[h] at e;cases e;exact mu
 have nf:∀b o u,H b=some (.frz o u)->b≠p:=fun b o u e z=>by subst z;rw[h] at e;cases e;exact mu
 have nb:∀b ps,H b=some (.tbl ps)->b≠p:=fun b ps e z=>by subst z;rw[h] at e;cases e;exact mu
 have no:∀b y,H b=some (.own y)->b≠p:=fun b ps e z=>by subst z;rw[h] at e;cases e;exact mu
 have hok:HOk X.prog X.w (upd H p (.frz o u)) s.heap:=fun b v q=>by
  by_cases hb:b=p
  ·subst hb
   rw[aL] at q;cases q
   exact⟨ho,(I.hok b _ h).iy (fun _ _ _ z=>z) (fun c z=>by rw[aw (no c _ z)];exact z) fun c xs z=>by rw[aw (nt c xs z)];exact z⟩
  ·rw[aw hb] at q
   exact(I.hok b v q).iy (fun _ _ _ z=>z) (fun c z=>by rw[aw (no c _ z)];exact z) fun c xs z=>by rw[aw (nt c xs z)];exact z
 refine⟨o,?_⟩
 have np:∀b,H b=none->b≠p:=fun b e z=>by simp_all
 have:=I.un (t':=s.toks) ⟨fun b o q _ _ _=>q,fun b o q _ _ _=>⟨o.slots,q⟩,fun b v q n _=>(by rw[aw (np b n)];exact n),fun b o q _=>⟨o,q⟩,fun b xs q=>(by rw[aw (nt b xs q)];exact q),fun b o v q=>(by rw[aw (nf b o v q)];exact q),fun b ps q=>⟨#[],by rw[aw (nb b ps q),q];simp⟩⟩ hok
 omega
noncomputable def gx (Q:VK):VK:=fun v H=>Q v H\/∃p u,v=.ref p/\H p=some u/\Mut (some u)/\∀o,Q v (upd H p (.frz o u))
def EP.frz (h:EP X pins σ (gx Q) u s'):EP X pins σ Q u s':=by
 obtain⟨v,H',I,r,q | ⟨p,u,rfl,e,m,q⟩⟩:=h
 ·exact⟨v,H',I,r,q⟩
 ·obtain⟨o,I'⟩:=yx I e m
  exact⟨_,_,I',r,q o⟩
theorem PE.frz (h:PE X e t):PE X e fun σ H Q=>t σ H (gx Q):=fun pins s σ H Q I w=>thn (h pins s σ H _ I w) fun _ _ z=>EP.frz z
theorem OpR.frz (h:OpR X f r):OpR X f fun x y H Q=>r x y H (gx Q):=fun pins s σ H x y v u Q I rx ry q=>thn (h pins s σ H x y v u _ I rx ry q) fun _ _ z=>EP.frz z
theorem aV.frz (h:aV X f r):aV X f fun xs H Q=>r xs H (gx Q):=fun pins s σ H xs us Q I rx q=>thn (h pins s σ H xs us _ I rx q) fun _ _ z=>EP.frz z
noncomputable def KW (D:Ends):Ends:={ D with nx:=fun σ H=>D.nx σ H\/∃p u,H p=some u/\Mut (some u)/\∀o,D.nx σ (upd H p (.frz o u)) }
def PS.frz {st:Stmt}{t:TS} (h:PS X st t):PS X st fun E σ H=>t (KW E) σ H:=fun pins s σ H E I w=>thn (h pins s σ H _ I w) fun fl s' z=>by
 cases fl with
 | next=>
  obtain⟨σ',H',I,q | ⟨p,u,e,m,q⟩⟩:=z
  ·exact⟨σ',H',I,q⟩
  ·obtain⟨o,I'⟩:=yx I e m
   exact⟨σ',_,I',q o⟩
 | brk=>exact z
 | cont=>exact z
 | ret u=>exact z
def Ez {σ:St} (z:gx (fun v H1=>E.nx (σ.set i (some v)) H1) v H1):(KW E).nx (σ.set i (some v)) H1:=by
 rcases z with z | ⟨p,u,_,e,m,q⟩
 ·exact .inl z
 ·exact .inr ⟨p,u,e,m,q⟩
noncomputable abbrev NL:=List D->Hh->R D
noncomputable def jW:NL:=fun ys h2=>.ok (.ref h2.length) (h2++[O.lst ys])
noncomputable def aI:NL:=fun ys h2=>.ok (.frl ys) h2
class iz (nl:NL):Prop where
 at':∀{K:ND} {g:GG} {ε:EE} {α1 α2:List Addr} {H1 H2:Hp} {h:Hh} {as:List D} {ys:List V} {acc:Addr} {Q:D->Hh->Prop} {R:VK},WQ K g ε α1 H1 (nl as h) Q->(∀d h',Q d h'->aB K g α1 H1 R d h')->Ext K α1 H1 α2 H2->aK K g α2 H2 h->ao K g α2 H2 as ys->H2 acc=some (.lst ys)->acc∉α2->H1 acc=none->gx R (.ref acc) H2
instance:iz jW where
 at':=fun{K g ε α1 α2 H1 H2 h as ys acc Q R} w hq x2 hr2 ra ha hna hacc=>by
  have x3:Ext K α1 H1 (α2++[acc]) H2:=⟨x2.toEx0.trans (Ex0.refl.more _),x2.kept,fun p z n=>by
   rcases Ou.mp z with z | z
   ·exact x2.new p z n
   ·rw[N_.mp z];exact hacc⟩
  refine .inl (hq _ _ w _ H2 (α2++[acc]) x3 (hr2.adopt hna ⟨ys,ha,ra.ex0 (Ex0.refl.more _)⟩) (.ref ?_))
  rw[<- hr2.len,N8 (NK _)];simp
instance:iz aI where
 at':=fun{K g ε α1 α2 H1 H2 h as ys acc Q R} w hq x2 hr2 ra ha hna hacc=>by
  refine .inr ⟨acc,_,rfl,ha,trivial,fun o=>?_⟩
  have soft:Ei H2 acc:=.inr ⟨_,ha,fun _ z=>(nomatch z),fun _ _ z=>(nomatch z),fun _ z=>nomatch z⟩
  have x6:Ex0 K α2 H2 α2 (upd H2 acc (.frz o (.lst ys))):=Ex0.upd soft
  refine hq _ _ w _ _ α2 ⟨x2.toEx0.trans x6,fun p u z n nt=>?_,x2.new⟩ (hr2.off soft hna) (.frl ⟨o,aL⟩ (ra.ex0 x6))
  rw[aw (aE z hacc)];exact x2.kept p u z n nt
def NL.post [iz nl]{K:ND}{g:GG}{ε:EE}{α:List Addr}{H:Hp}{h:Hh}{ds:List D}{vs:List V}{Q:VK}{p:Addr} (w:WQ K g ε α H (nl ds h) (aB K g α H Q)) (r:aK K g α H h) (rd:ao K g α H ds vs) (n:H p=none):gx Q (.ref p) (upd H p (.lst vs)):=
 iz.at' w (fun _ _ z=>z) (Ext.fresh n) (r.grow n) (rd.ext (Ext.fresh n)) aL (r.free n) n
noncomputable def dw (nl:NL):List D->Hh->R D:=fun ds h=>if ds.length<=1000000 then nl ds h else .bad
def Hx {X:Cx}{g:GG}{ε:EE}{es:List Expr}{mr:MA}{pos:Pos}{nl:NL} [iz nl] (ha:PA X es (tMA X.K g ε mr)):PE X (.List es pos) (tM X.K g ε (ah (dw nl) mr)):=
 PE.imp (PE.frz (HD ha)) fun σ H Q ⟨α,env,h,s,w⟩=>tMA.use s w.bind fun d1 h1 v1 H1 α1 e1 s1 r1 w1=>by
  obtain⟨hl,w2⟩:=WQ.cO w1
  exact⟨eZ (by rw[<- r1.length];exact hl),fun p hp=>NL.post (w2.post e1) s1.heap r1 hp⟩
noncomputable def aq (h:Hh) (n:Nat):Option (List D):=match h[n]? with
 | some (.lst ds)=>some ds
 | _=>none
inductive Src where
 | snap (ds:List D)
 | live (n:Nat)
 | liveE (n:Nat)
noncomputable abbrev MI:=En->Hh->R Src
noncomputable abbrev Rdr:=Hh->Nat->Option (Option D)
noncomputable def Src.rdr:Src->Rdr
 | .snap ds=>fun _ i=>some ds[i]?
 | .live n=>fun h i=>(aq h n).map fun ds=>ds[i]?
 | .liveE n=>fun h i=>(aq h n).map fun ds=>(ds[i]?).map fun d=>D.tup [.int i,d]
noncomputable def Src.fuel (s:Src) (h:Hh):Nat:=match s with
 | .snap ds=>ds.length
 | .live n=>((aq h n).getD []).length
 | .liveE n=>((aq h n).getD []).length
def Reads (K:ND) (g:GG) (J:It) (rd:Rdr) (α₀:List Addr) (aD:Hp):Prop:=
 ∀α H h , Ext K α₀ aD α H->aK K g α H h->∀i,match rd h i with
  | none=>True
  | some none=>J.stop i H
  | some (some d)=>J.go i H/\∀x H',J.yld i H x H'->∃α',Ext K α H α' H'/\aK K g α' H' h/\aC K g α' H' d x
noncomputable def tMI (K:ND) (g:GG) (ε:EE) (m:MI):TI:=fun σ H T=>∃α env h,cM K g α H env σ h/\WQ K g ε α H (m env h) fun sr h'=>∀J H' α',Ext K α H α' H'->aK K g α' H' h'->Reads K g J sr.rdr α' H'->T J H'
def PI.imp (h:PI X tg e t) (i:∀σ H Q,t' σ H Q->t σ H Q):PI X tg e t':=fun pins s σ H Q I w=>h pins s σ H Q I (i σ H Q w)
noncomputable def eX (rd:Rdr) (tg:D->En->Hh->R En) (body:MS):Nat->Nat->En->Hh->R Fl
 | k,i,env,h=>match rd h i with
  | none=>.bad
  | some none=>.ok (.nx env) h
  | some (some d)=>match k with
   | 0=>.bad
   | k+1=>(tg d env h).bind fun e1 h1=>(body e1 h1).bind fun fl h2=>match fl with
    | .nx e=>eX rd tg body k (i+1) e h2
    | .ct e=>eX rd tg body k (i+1) e h2
    | .bk e=>.ok (.nx e) h2
    | .rt d=>.ok (.rt d) h2
noncomputable def cI (tg:D->En->Hh->R En) (body:MS):List D->En->Hh->R Fl
 | [],env,h=>.ok (.nx env) h
 | d::ds,env,h=>(tg d env h).bind fun e1 h1=>(body e1 h1).bind fun fl h2=>match fl with
  | .nx e=>cI tg body ds e h2
  | .ct e=>cI tg body ds e h2
  | .bk e=>.ok (.nx e) h2
  | .rt d=>.ok (.rt d) h2
def EN (tg:D->En->Hh->R En) (body:MS) (all:List D):∀(ds:List D) (i:Nat) (env:En) (h:Hh),all.drop i=ds->eX (Src.snap all).rdr tg body ds.length i env h=cI tg body ds env h:=by
 intro ds
 induction ds with
 | nil=>
  intro i env h e
  have:all[i]?=none:=by
   simp_all
  unfold eX cI Src.rdr
  grind
 | cons d ds ih=>
  intro i env h e
  have h0:all[i]?=some d:=by
   have:=congrArg (fun l=>l[0]?) e
   grind
  have h1:all.drop (i+1)=ds:=by
   have:=congrArg List.tail e
   simpa using this
  unfold eX cI
  have:(Src.snap all).rdr h i=some (some d):=by unfold Src.rdr;simp[h0]
  simp_all
noncomputable def cx (mi:MI) (tg:D->En->Hh->R En) (body:MS):MS:=fun env h=>(mi env h).bind fun sr h1=>match sr with
 | .snap ds=>cI tg body ds env h1
 | .live n=>eX (Src.live n).rdr tg body ((aq h1 n).getD []).length 0 env h1
 | .liveE n=>eX (Src.liveE n).rdr tg body ((aq h1 n).getD []).length 0 env h1
def EA:cx mi tg body env h=(mi env h).bind fun sr h1=>eX sr.rdr tg body (sr.fuel h1) 0 env h1:=by
 unfold cx
 congr 1
 funext sr h1
 cases sr with
 | snap ds=>exact(EN tg body ds ds 0 env h1 rfl).symm
 | live n=>rfl
 | liveE n=>rfl
noncomputable def gN (i:Nat):D->En->Hh->R En:=fun d env h=>.ok (env.set i (some d)) h
noncomputable def gT2 (i j:Nat):D->En->Hh->R En:=fun d env h=>match d with
 | .tup [x,y]=>.ok ((env.set i (some x)).set j (some y)) h
 | _=>.bad
def Hi (K:ND) (g:GG) (ε:EE) (tg:D->En->Hh->R En) (t:TG):Prop:=
 ∀α H h env σ d x Q , cM K g α H env σ h->aC K g α H d x →
  WQ K g ε α H (tg d env h) (fun e1 h1=>∀σ' H' α',Ext K α H α' H'->cM K g α' H' e1 σ' h1->Q σ' H')->t x σ H Q
def de {K:ND}:Hi K g ε (gN i) (gq i):=fun α H h env σ d x Q s r w=>w _ H α Ext.refl ⟨s.heap,s.vs.set r⟩
def wb {K:ND}:Hi K g ε (gT2 i j) (K3 K 2 (Bi (gq i) (Bi (gq j) Jj))):=fun α H h env σ d x Q s r w=>by
 cases r with
 | tup hq rs=>
  cases rs with
  | nil=>exact w.elim
  | cons ra rr=>
   cases rr with
   | nil=>exact w.elim
   | cons rb rr=>
    cases rr with
    | nil=>exact⟨_,_,rfl,SqT.of hq,rfl,_,_,rfl,_,_,rfl,rfl,w _ H α Ext.refl ⟨s.heap,(s.vs.set ra).set rb⟩⟩
    | cons _ _=>exact w.elim
 | _=>exact w.elim
section
variable {X:Cx}{g:GG}{ε:EE}
def fm {tg iter:Expr}{body:List Stmt}{mi:MI}{t:TG}{fg:D->En->Hh->R En}{mb:MS}{pos:Pos} (hp:Sm (model X.prog X.w) X.A X.env X.xe) (hc:X.calm=true) (hi:PI X tg iter (tMI X.K g ε mi)) (hg:PG X tg t) (ig:Hi X.K g ε fg t) (hb:PSs X body (tMS X.K g ε mb))
  (hs:∀x,foldedSetIterable iter X.env x=pure x:=by intro _;rfl):PS X (.For tg iter body [] pos) (tMS X.K g ε (cx mi fg mb)):=by
 refine PS.imp (Hk hp hc hi hg hb hs) fun E σ H ⟨α,env,h,s,w⟩=>?_
 rw[EA] at w
 refine⟨α,env,h,s,w.bind.mono fun sr h1 _ w1 J H1 α1 e1 hr1 rd=>?_⟩
 refine⟨fun i m σ H=>∃α env h,Ext X.K α1 H1 α H/\cM X.K g α H env σ h/\WQ X.K g ε α H (eX sr.rdr fg mb m i env h) (cH X.K g α H E),⟨sr.fuel h1,α1,env,h1,Ext.refl,s.ext e1 hr1,w1.ya e1⟩,?_⟩
 rintro i m σ2 H2 ⟨α2,env2,h2,x2,s2,w2⟩
 have q:=rd α2 H2 h2 x2 s2.heap i
 unfold eX at w2
 cases e:sr.rdr h2 i with
 | none=>rw[e] at w2;exact w2.elim
 | some od=>
  rw[e] at w2 q
  cases od with
  | none=>exact .inl ⟨q,s2.nx Ext.refl w2⟩
  | some d=>
   cases m with
   | zero=>exact w2.elim
   | succ m=>
    have w3:=WQ.bind (show WQ X.K g ε α2 H2 ((fg d env2 h2).bind _) _ from w2)
    refine .inr ⟨q.1,fun σ' H'=>∃α env h,Ext X.K α1 H1 α H'/\cM X.K g α H' env σ' h/\WQ X.K g ε α H' (eX sr.rdr fg mb m (i+1) env h) (cH X.K g α H' E),fun σ' H' z=>⟨m,P2 _,z⟩,fun x H3 y=>?_⟩
    obtain⟨α3,x3,hr3,rx⟩:=q.2 x H3 y
    refine ig α3 H3 h2 env2 σ2 d x _ (s2.ext x3 hr3) rx ((w3.ext x3).mono fun e4 h4 _ w4 σ4 H4 α4 x4 s4=>?_)
    refine tMS.use s4 ((w4.ext x3).ext x4).bind fun fl h5 H5 α5 x5 hr5 w5=>?_
    have tr:=x3.trans (x4.trans x5)
    cases fl with
    | nx e=>exact fun σ' s'=>⟨α5,e,h5,x2.trans tr,s',((w5.ext x5)).mono fun _ _ _ p=>p.ext tr⟩
    | ct e=>exact fun σ' s'=>⟨α5,e,h5,x2.trans tr,s',((w5.ext x5)).mono fun _ _ _ p=>p.ext tr⟩
    | bk e=>exact fun σ' s'=>(show cH X.K g α2 H2 E (.nx e) h5 from w5) H5 α5 tr hr5 σ' s'.vs
    | rt d=>exact fun v rv=>(show cH X.K g α2 H2 E (.rt d) h5 from w5) H5 α5 tr hr5 v rv
theorem aK.lst {K:ND}{α:List Addr}{H:Hp}{h:Hh}{n:Nat}{ds:List D} (r:aK K g α H h) (e:aq h n=some ds){p:Addr} (hp:α[n]?=some p):∃vs,H p=some (.lst vs)/\ao K g α H ds vs:=by
 unfold aq at e
 cases o:h[n]? with
 | none=>simp_all
 | some o'=>
  rw[o] at e
  have q:=r.here n p o' hp o
  cases o' with
  | lst ds'=>cases e;assumption
  | set n=>cases e
  | dic k=>cases e
  | dit k=>cases e
noncomputable def r8:D->Hh->R Src
 | .tup ds,h=>.ok (.snap ds) h
 | .frl ds,h=>.ok (.snap ds) h
 | .scr ds,h=>.ok (.snap ds) h
 | .ref n,h=>match aq h n with
  | some _=>.ok (.live n) h
  | none=>.bad
 | _,_=>.bad
noncomputable def bp (a:ME):MI:=fun env h=>(a env h).bind r8
noncomputable def MH (K:ND) (tl:TE):TI:=fun σ H R=>tl σ H fun x H1=>∃a,x=.ref a/\(((∃xs,SqL K H1 a xs)/\R (Itl K a) H1)\/((∃xs,SqT K H1 a xs)/\R (Itt K a) H1))
def Hm {tg l:Expr}{tl:TE} (hl:PE X l tl):PI X tg l (MH X.K tl):=by
 intro pins s σ H R I h
 refine thn (hl pins s σ H _ I h) fun v s1 ⟨x,H1,I1,r1,q1⟩=>?_
 obtain⟨a,e,q⟩:=q1
 subst e
 cases r1
 rcases q with⟨⟨xs,hq⟩,q⟩ | ⟨⟨xs,hq⟩,q⟩
 ·obtain⟨its,rv,p,hz⟩:=I1.list hq
  refine Su p.isList ?_
  refine⟨s1.heap.objs.size,[s1.heap.objs.size],_,_,H1,rfl,I1.kept fun b o e=>NF _ e,zi a _,⟨_,NN _ rfl,rfl,rfl⟩,fun b hb=>?_,q⟩
  have e:b=s1.heap.objs.size:=by simp_all
  subst e
  exact I1.EJ (NK _) (I1.hok.fresh (NK _))
 ·obtain⟨its,rv,p,hz⟩:=I1.tuple hq
  refine Rf (show s1.heap.IsTuple a its.toArray from p) ?_
  refine⟨s1.heap.objs.size,[s1.heap.objs.size],_,_,H1,rfl,I1.kept fun b o e=>NF _ e,wk a _,⟨_,NN _ rfl,rfl,rfl⟩,fun b hb=>?_,q⟩
  have e:b=s1.heap.objs.size:=by simp_all
  subst e
  exact I1.EJ (NK _) (I1.hok.fresh (NK _))
def zm {K:ND} (hq':H a=some (.tup vs)) (rs:ao K g α H ds vs):Reads K g (Itt K a) (Src.snap ds).rdr α H:=by
 intro α2 H2 h2 x2 hr i
 have hq2:SqT K H2 a vs:=SqT.of (x2.tup _ _ hq')
 have rs2:=rs.ext x2
 show match some ds[i]? with | none=>True | some none=>_ | some (some d)=>_
 cases e:ds[i]? with
 | none=>
  have:ds.length<=i:=O5.mp e
  exact⟨vs,hq2,by rw[<- rs.length];omega⟩
 | some d=>
  obtain⟨v,ev,rv⟩:=rs2.get e
  refine⟨⟨vs,v,hq2,ev⟩,fun x H' y=>?_⟩
  obtain⟨e1,e2⟩:=y
  subst e1
  have:=e2 vs hq2
  rw[ev] at this
  cases this
  exact⟨α2,Ext.refl,hr,rv⟩
def qd {K:ND} (hq:Fro K H a vs) (rs:ao K g α H ds vs):Reads K g (Itl K a) (Src.snap ds).rdr α H:=by
 intro α2 H2 h2 x2 hr i
 have hq2:=x2.fro _ _ hq
 have rs2:=rs.ext x2
 show match some ds[i]? with | none=>True | some none=>_ | some (some d)=>_
 cases e:ds[i]? with
 | none=>
  have:ds.length<=i:=O5.mp e
  exact⟨vs,hq2.sq,by rw[<- rs.length];omega⟩
 | some d=>
  obtain⟨v,ev,rv⟩:=rs2.get e
  refine⟨⟨vs,v,hq2.sq,ev⟩,fun x H' y=>?_⟩
  obtain⟨e1,e2⟩:=y
  subst e1
  have:=e2 vs hq2.sq
  rw[ev] at this
  cases this
  exact⟨α2,Ext.refl,hr,rv⟩
def zH {K:ND} (ha:α[n]?=some a):Reads K g (Itl K a) (Src.live n).rdr α H:=by
 intro α2 H2 h2 x2 hr i
 show match (aq h2 n).map fun ds=>ds[i]? with | none=>True | some none=>_ | some (some d)=>_
 cases e:aq h2 n with
 | none=>trivial
 | some ds=>
  obtain⟨vs,hq',rs⟩:=hr.lst e (x2.get ha)
  have hq:SqL K H2 a vs:=SqL.of hq'
  show match some ds[i]? with | none=>True | some none=>_ | some (some d)=>_
  cases ei:ds[i]? with
  | none=>
   have:ds.length<=i:=O5.mp ei
   exact⟨vs,hq,by rw[<- rs.length];omega⟩
  | some d=>
   obtain⟨v,ev,rv⟩:=rs.get ei
   refine⟨⟨vs,v,hq,ev⟩,fun x H' y=>?_⟩
   obtain⟨e1,e2⟩:=y
   subst e1
   have:=e2 vs hq
   rw[ev] at this
   cases this
   exact⟨α2,Ext.refl,hr,rv⟩
def dB {tg e:Expr}{me:ME} (he:PE X e (tM X.K g ε me)):PI X tg e (tMI X.K g ε (bp me)):=
 PI.imp (Hm he) fun σ H T ⟨α,env,h,s,w⟩=>tM.use s w.bind fun d1 h1 v1 H1 α1 e1 s1 r1 w1=>by
  unfold r8 at w1
  cases r1 with
  | tup hq rs=>exact⟨_,rfl,.inr ⟨⟨_,SqT.of hq⟩,w1 _ H1 α1 e1 s1.heap (zm hq rs)⟩⟩
  | frl hq rs=>exact⟨_,rfl,.inl ⟨⟨_,hq.sq⟩,w1 _ H1 α1 e1 s1.heap (qd hq.fro rs)⟩⟩
  | scr hq rs=>exact⟨_,rfl,.inl ⟨⟨_,hq.sq⟩,w1 _ H1 α1 e1 s1.heap (qd hq rs)⟩⟩
  | @ref n p hp=>
   cases el:aq h1 n with
   | none=>simp only[el] at w1;exact w1.elim
   | some ds=>
    simp only[el] at w1
    obtain⟨vs,hq,_⟩:=s1.heap.lst el hp
    exact⟨p,rfl,.inl ⟨⟨_,SqL.of hq⟩,w1 _ H1 α1 e1 s1.heap (zH hp)⟩⟩
  | _=>exact w1.elim
noncomputable def eJ (ds:List D):List D:=(NQ ds.length).map fun(i:Nat)=>D.tup [.int i,ds.getD i .non]
noncomputable def sT:D->Hh->R Src
 | .tup ds,h=>.ok (.snap (eJ ds)) h
 | .frl ds,h=>.ok (.snap (eJ ds)) h
 | .ref n,h=>match aq h n with
  | some _=>.ok (.liveE n) h
  | none=>.bad
 | _,_=>.bad
noncomputable def ku (a:ME):MI:=fun env h=>(a env h).bind sT
def qh {i:Nat}:(eJ ds)[i]?=(ds[i]?).map fun d=>D.tup [.int i,d]:=by
 unfold eJ
 grind
def nh {K:ND}{i:Nat} (hr:aK K g α H h) (rv:aC K g α H d v) (hp:H p=none) :
  ∃α',Ext K α H α' (upd H p (.tup [.int i,v]))/\aK K g α' (upd H p (.tup [.int i,v])) h/\aC K g α' (upd H p (.tup [.int i,v])) (.tup [.int i,d]) (.ref p):=
 ⟨α,Ext.fresh hp,hr.grow hp,.tup aL (.cons (.int _) (.cons (rv.ext (Ext.fresh hp)) .nil))⟩
def tI {K:ND} (hq':H a=some (.tup vs)) (rs:ao K g α H ds vs):Reads K g (Iet K a) (Src.snap (eJ ds)).rdr α H:=by
 intro α2 H2 h2 x2 hr i
 have hq2:SqT K H2 a vs:=SqT.of (x2.tup _ _ hq')
 have rs2:=rs.ext x2
 show match some (eJ ds)[i]? with | none=>True | some none=>_ | some (some d)=>_
 rw[qh]
 cases e:ds[i]? with
 | none=>
  have:ds.length<=i:=O5.mp e
  exact⟨vs,hq2,by rw[<- rs.length];omega⟩
 | some d=>
  obtain⟨v,ev,rv⟩:=rs2.get e
  refine⟨⟨vs,v,hq2,ev⟩,fun x H' y=>?_⟩
  obtain⟨p,v',e1,hp,e2,e3⟩:=y
  subst e1 e3
  have:=e2 vs hq2
  rw[ev] at this
  cases this
  exact nh hr rv hp
def tY {K:ND} (hq:Fro K H a vs) (rs:ao K g α H ds vs):Reads K g (Iel K a) (Src.snap (eJ ds)).rdr α H:=by
 intro α2 H2 h2 x2 hr i
 have hq2:=(x2.fro _ _ hq).sq
 have rs2:=rs.ext x2
 show match some (eJ ds)[i]? with | none=>True | some none=>_ | some (some d)=>_
 rw[qh]
 cases e:ds[i]? with
 | none=>
  have:ds.length<=i:=O5.mp e
  exact⟨vs,hq2,by rw[<- rs.length];omega⟩
 | some d=>
  obtain⟨v,ev,rv⟩:=rs2.get e
  refine⟨⟨vs,v,hq2,ev⟩,fun x H' y=>?_⟩
  obtain⟨p,v',e1,hp,e2,e3⟩:=y
  subst e1 e3
  have:=e2 vs hq2
  rw[ev] at this
  cases this
  exact nh hr rv hp
def sW {K:ND} (ha:α[n]?=some a):Reads K g (Iel K a) (Src.liveE n).rdr α H:=by
 intro α2 H2 h2 x2 hr i
 show match (aq h2 n).map fun ds=>(ds[i]?).map fun d=>D.tup [.int i,d] with | none=>True | some none=>_ | some (some d)=>_
 cases e:aq h2 n with
 | none=>trivial
 | some ds=>
  obtain⟨vs,hq',rs⟩:=hr.lst e (x2.get ha)
  have hq:SqL K H2 a vs:=SqL.of hq'
  show match some ((ds[i]?).map fun d=>D.tup [.int i,d]) with | none=>True | some none=>_ | some (some d)=>_
  cases ei:ds[i]? with
  | none=>
   have:ds.length<=i:=O5.mp ei
   exact⟨vs,hq,by rw[<- rs.length];omega⟩
  | some d=>
   obtain⟨v,ev,rv⟩:=rs.get ei
   refine⟨⟨vs,v,hq,ev⟩,fun x H' y=>?_⟩
   obtain⟨p,v',e1,hp,e2,e3⟩:=y
   subst e1 e3
   have:=e2 vs hq
   rw[ev] at this
   cases this
   exact nh hr rv hp
def xD {elts:List Expr}{kt:Nat}{tp p pos:Pos}{e:Expr}{me:ME} (hg:Gl X "enumerate") (hm:X.mg "enumerate" = none) (he:PE X e (tM X.K g ε me)) (hs:starEach [e] X.env=[(false,eval e X.env)]:=by rfl):PI X (.Tuple elts kt tp) (.Call (.Name "enumerate" p) [e] [] pos) (tMI X.K g ε (ku me)):=
 PI.imp (Fg hg hm he hs) fun σ H T ⟨α,env,h,s,w⟩=>tM.use s w.bind fun d1 h1 v1 H1 α1 e1 s1 r1 w1=>by
  unfold sT at w1
  cases r1 with
  | tup hq rs=>exact⟨_,rfl,.inr ⟨⟨_,SqT.of hq⟩,w1 _ H1 α1 e1 s1.heap (tI hq rs)⟩⟩
  | frl hq rs=>exact⟨_,rfl,.inl ⟨⟨_,hq.sq⟩,w1 _ H1 α1 e1 s1.heap (tY hq.fro rs)⟩⟩
  | @ref n p hp=>
   cases el:aq h1 n with
   | none=>simp only[el] at w1;exact w1.elim
   | some ds=>
    simp only[el] at w1
    obtain⟨vs,hq,_⟩:=s1.heap.lst el hp
    exact⟨p,rfl,.inl ⟨⟨_,SqL.of hq⟩,w1 _ H1 α1 e1 s1.heap (sW hp)⟩⟩
  | _=>exact w1.elim
noncomputable def bD (lo:Int) (n:Nat):List D:=(NQ n).map fun(i:Nat)=>D.int (lo+i)
noncomputable def fw:List D->Hh->R Src
 | [.int j],h=>if j.natAbs<=1000000 then .ok (.snap (bD 0 j.toNat)) h else .bad
 | _,_=>.bad
noncomputable def qT:List D->Hh->R Src
 | [.int i,.int j],h=>if i.natAbs<=1000000/\j.natAbs<=1000000 then .ok (.snap (bD i (j - i).toNat)) h else .bad
 | _,_=>.bad
noncomputable def dY (f:List D->Hh->R Src) (a:MA):MI:=fun env h=>(a env h).bind f
def pX {K:ND}{lo:Int}:Reads K g (Itr lo n) (Src.snap (bD lo n)).rdr α H:=by
 intro α2 H2 h2 x2 hr i
 show match some (bD lo n)[i]? with | none=>True | some none=>_ | some (some d)=>_
 unfold bD
 rw[Oh]
 by_cases hi:i<n
 ·rw[R1 hi]
  refine⟨hi,fun x H' y=>?_⟩
  obtain⟨e1,e2⟩:=y
  subst e1 e2
  exact⟨α2,Ext.refl,hr,.int _⟩
 ·rw[List.getElem?_eq_none (by simp_all)]
  exact Nat.le_of_not_lt hi
def dJ {tg a:Expr}{ma:MA}{p pos:Pos} (hg:Gl X "range") (hm:X.mg "range" = none) (ha:PA X [a] (tMA X.K g ε ma)) (hs:starEach [a] X.env=[(false,eval a X.env)]:=by rfl):PI X tg (.Call (.Name "range" p) [a] [] pos) (tMI X.K g ε (dY fw ma)):=
 PI.imp (zj hg hm ha hs) fun σ H T ⟨α,env,h,s,w⟩=>tMA.use s w.bind fun d1 h1 v1 H1 α1 e1 s1 r1 w1=>by
  cases r1 with
  | nil=>exact w1.elim
  | cons ra rr=>
   cases rr with
   | cons _ _=>cases ra<;>exact w1.elim
   | nil=>
    cases ra with
    | int j=>
     obtain⟨hj,w2⟩:=WQ.cO w1
     exact⟨j,rfl,by omega,by omega,w2 _ H1 α1 e1 s1.heap pX⟩
    | _=>exact w1.elim
def xt {tg a b:Expr}{ma:MA}{p pos:Pos} (hg:Gl X "range") (hm:X.mg "range" = none) (ha:PA X [a,b] (tMA X.K g ε ma)) (hs:starEach [a,b] X.env=[(false,eval a X.env),(false,eval b X.env)]:=by rfl) (hs2:starEach [b] X.env=[(false,eval b X.env)]:=by rfl):PI X tg (.Call (.Name "range" p) [a,b] [] pos) (tMI X.K g ε (dY qT ma)):=
 PI.imp (zX hg hm ha hs hs2) fun σ H T ⟨α,env,h,s,w⟩=>tMA.use s w.bind fun d1 h1 v1 H1 α1 e1 s1 r1 w1=>by
  unfold qT at w1
  split at w1
  ·cases r1 with
   | cons ra rr=>
    cases ra
    cases rr with
    | cons rb rr=>
     cases rb
     cases rr
     obtain⟨hj,w2⟩:=WQ.cO w1
     exact⟨_,_,rfl,⟨by omega,by omega,by omega,by omega⟩,w2 _ H1 α1 e1 s1.heap pX⟩
  ·exact w1.elim
end
noncomputable abbrev E00:EE:=fun _ _ _=>False
noncomputable abbrev MF:=List D->Hh->R D
noncomputable def bF (n:Nat) (m:MS):MF:=fun ds h=>(m (ds.map some++N1 (n - ds.length) none) h).bind fun fl h1=>match fl with
 | .rt d=>.ok d h1
 | .nx _=>.ok .non h1
 | _=>.bad
noncomputable def spG (K:ND) (g:GG) (ε:XK->EE) (np:Nat) (m:MF):Sp:=fun vs H Q E=>vs.length=np/\∃α ds h,ao K g α H ds vs/\aK K g α H h/\WQ K g (ε E) α H (m ds h) (aB K g α H Q)
noncomputable abbrev spM (K:ND) (g:GG) (np:Nat) (m:MF):Sp:=spG K g (fun _=>E00) np m
def ir {K:ND}{g:GG}{α:List Addr}{H:Hp}{N:List Str}{ds:List D}{vs:List V} (r:ao K g α H ds vs):iu K g α H (ds.map some++N1 (N.length - ds.length) none) (start N vs):=by
 have hl:=r.length
 refine⟨by simp[start,hl],fun i d h=>?_⟩
 by_cases hi:i<ds.length
 ·rw[Oo (by simp_all),Oh] at h
  cases e:ds[i]? with
  | none=>simp_all
  | some d'=>
   rw[e] at h
   cases h
   obtain⟨v,ev,rv⟩:=r.get e
   refine⟨v,?_,rv⟩
   unfold start
   grind
 grind
section
variable {P:NT}{w:Oe}{K:ND}{mg:Str->Option NI}{base:Heap}{g:GG}
def vG {st:Stmt} (F:Fun K x qual st f fd) (S:az N ps (ag st))
  (hb:∀cdv A outer s H E , bG k (A.deeper (envOfC qual (ag st) s.heap.objs.size f cdv)) →
   PSs (dW CX0 P w K mg base N qual (ag st) f cdv A outer s H E).nox (aP st) (tMS K g E00 mb)):b9 P w K mg base CX0 (k+1) f fd ps (spM K g ps.length (bF N.length mb)):=by
 refine F.ok S (fun vs H Q E h=>h.1) fun cdv A outer s H vs Q E hr h=>⟨_,hb cdv A outer s H E hr,?_⟩
 obtain⟨hl,α,ds,h,rs,hh,w⟩:=h
 refine tMS.use ⟨hh,ir rs⟩ w.bind fun fl h' H' α' e r kk=>?_
 cases fl with
 | nx e'=>exact fun σ' s'=>(show aB K g α H Q .non h' from kk) _ H' α' e r .non
 | bk e'=>exact kk.elim
 | ct e'=>exact kk.elim
 | rt d=>exact fun v rv=>(show aB K g α H Q d h' from kk) _ H' α' e r rv
end
section
variable {X:Cx}{g:GG}
def Fs {k:Nat}{f:Addr}{fd:P_}{ps:List Str}{m:MF}{np:Nat}{x:Str}{p pos:Pos}{e:Expr}{es:List Expr}{mr:MA} (F:b9 X.prog X.w X.K X.mg X.base CX0 k f fd ps (spM X.K g np m)) (hr:bG k X.A) (hg:Gl X x) (hm:X.mg x=some (.ref f)) (hk:Om X.K (.ref f)=true) (hb:Binds X.K fd ps [])
  (ha:PA X (e::es) (tMA X.K g E00 mr)) (hlen:∀env h ds h',mr env h=.ok ds h'->ds.length=np) (hdb:(x == ("__debug__" : Str))=false:=by decide) (he:starEach (e::es) X.env=(false,eval e X.env)::starEach es X.env:=by rfl) (hpl:(backTo pos (starEach es X.env)).any (·.1)=false:=by rfl) :
  PE X (.Call (.Name x p) (e::es) [] pos) (tM X.K g E00 (ah m mr)):=
 PE.imp (xA F hr hg hm hk hb .nil Kn ha hdb he hpl) fun σ H Q ⟨α,env,h,s,w⟩=>⟨α,env,h,s,w.bind.mono fun d1 h1 eq w1 v1 H1 α1 e1 hr1 r1=>by
  show spM X.K g np m (v1++[]) H1 Q E0
  rw[O2]
  refine⟨?_,α1,d1,h1,r1,hr1,w1.post e1⟩
  rw[<- r1.length]
  grind⟩
def ay:∀env h ds h',ak env h=.ok ds h'->ds.length=0:=fun env h ds h' e=>by cases e;rfl
def aj {a:ME}{r:MA}{n:Nat} (q:∀env h ds h',r env h=.ok ds h'->ds.length=n):∀env h ds h',aa a r env h=.ok ds h'->ds.length=n+1:=fun env h ds h' e=>by
 unfold aa at e
 cases e1:a env h with
 | ok d h1=>
  rw[e1] at e
  cases e2:r env h1 with
  | ok ds2 h2=>
   have e3:(R.ok (d::ds2) h2:R (List D))=.ok ds h':=by simpa [R.bind,e2] using e
   grind
  | err x h2=>simp[R.bind,e2] at e
  | bad=>simp[R.bind,e2] at e
 | err x h2=>rw[e1] at e;cases e
 | bad=>rw[e1] at e;cases e
end
noncomputable def j8 (ix:List Nat) (env:En) (d:D):En:=some d::ix.map fun i=>(env[i]?).join
noncomputable def tt1:MT:=fun _ h=>.ok true h
noncomputable def gm (rd:Rdr) (tt:MT) (te:ME) (ee:D->En):Nat->Nat->List D->Hh->R (List D)
 | k,i,acc,h=>match rd h i with
  | none=>.bad
  | some none=>.ok acc h
  | some (some d)=>match k with
   | 0=>.bad
   | k+1=>(tt (ee d) h).bind fun b h1=>if b=true then (te (ee d) h1).bind fun y h2=>gm rd tt te ee k (i+1) (acc++[y]) h2 else gm rd tt te ee k (i+1) acc h1
noncomputable def cN (tt:MT) (te:ME) (ee:D->En):List D->Hh->R (List D)
 | [],h=>.ok [] h
 | d::ds,h=>(tt (ee d) h).bind fun b h1=>if b=true then (te (ee d) h1).bind fun y h2=>(cN tt te ee ds h2).bind fun ys h3=>.ok (y::ys) h3 else cN tt te ee ds h1
def bA (r:R β) (f) (k:γ->Hh->R δ):(r.bind f).bind k=r.bind fun b h=>(f b h).bind k:=by cases r<;>rfl
def Dg (tt:MT) (te:ME) (ee:D->En) (all:List D):∀(ds:List D) (i:Nat) (acc:List D) (h:Hh),all.drop i=ds->gm (Src.snap all).rdr tt te ee ds.length i acc h=(cN tt te ee ds h).bind fun ys h'=>.ok (acc++ys) h':=by
 intro ds
 induction ds with
 | nil=>
  intro i acc h e
  have:all[i]?=none:=by
   simp_all
  unfold gm cN Src.rdr
  simp[this,R.bind]
 | cons d ds ih=>
  intro i acc h e
  have h0:all[i]?=some d:=by
   have:=congrArg (fun l=>l[0]?) e
   grind
  have h1:all.drop (i+1)=ds:=by
   have:=congrArg List.tail e
   simpa using this
  unfold gm cN
  have:(Src.snap all).rdr h i=some (some d):=by unfold Src.rdr;simp[h0]
  rw[this]
  show((tt (ee d) h).bind _)=_
  rw[bA]
  congr 1
  funext b h2
  cases b with
  | false=>simp_all
  | true=>
   rw[if_pos rfl,if_pos rfl,bA]
   congr 1
   funext y h3
   rw[bA]
   have:=ih (i+1) (acc++[y]) h3 h1
   rw[this]
   congr 1
   funext ys h4
   show R.ok (acc++[y]++ys) h4=R.ok (acc++(y::ys)) h4
   simp
noncomputable def c7 (nl:NL) (mi:MI) (ix:List Nat) (tt:MT) (te:ME):ME:=fun env h=>(mi env h).bind fun sr h1=>if sr.fuel h1<=1000000 then
 (match sr with
  | .snap ds=>cN tt te (j8 ix env) ds h1
  | .live n=>gm (Src.live n).rdr tt te (j8 ix env) ((aq h1 n).getD []).length 0 [] h1
  | .liveE n=>gm (Src.liveE n).rdr tt te (j8 ix env) ((aq h1 n).getD []).length 0 [] h1).bind nl else .bad
def CK:c7 nl mi ix tt te env h=(mi env h).bind fun sr h1=>if sr.fuel h1<=1000000 then (gm sr.rdr tt te (j8 ix env) (sr.fuel h1) 0 [] h1).bind nl else .bad:=by
 unfold c7
 congr 1
 funext sr h1
 cases sr with
 | snap ds=>
  have:=Dg tt te (j8 ix env) ds ds 0 [] h1 rfl
  have e:(Src.snap ds).fuel h1=ds.length:=rfl
  rw[e,this,bA]
  rfl
 | live n=>rfl
 | liveE n=>rfl
def Fz {K:ND}{g:GG}{α:List Addr}{H:Hp}{env:En}{σ:St}{ix:List Nat}{d:D}{v:V} (s:iu K g α H env σ) (r:aC K g α H d v):iu K g α H (j8 ix env d) ((uO ix σ).set 0 (some v)):=by
 refine⟨by simp[j8,uO],fun i e h=>?_⟩
 cases i with
 | zero=>
  have:d=e:=by simpa [j8] using h
  subst this
  exact⟨v,by rfl,r⟩
 | succ i=>
  have h':(ix.map fun i=>(env[i]?).join)[i]?=some (some e):=by assumption
  rw[Oh] at h'
  cases ei:ix[i]? with
  | none=>simp_all
  | some j=>
   rw[ei] at h'
   have h2:(env[j]?).join=some e:=by simp_all
   cases ej:env[j]? with
   | none=>simp_all
   | some oe=>
    rw[ej] at h2
    have h3:oe=some e:=by simp_all
    subst h3
    obtain⟨u,eu,ru⟩:=s.vars j e ej
    refine⟨u,?_,ru⟩
    simp only[uO,List.set_cons_zero,List.getElem?_cons_succ,Oh,ei,Option.map_some,eu]
    rfl
section
variable {X:Cx}{g:GG}
def Gu:PTs X [] (tMT X.K g E00 tt1):=fun pins s σ H Q I ⟨α,env,h,s',w⟩=>Du pins s σ H Q I (w H α Ext.refl s'.heap)
def hZ {mt:MT} (h:PT X c (tMT X.K g E00 mt)):PTs X [c] (tMT X.K g E00 mt):=Fh h
def vh {K:ND}{nl:NL} [iz nl]{mi:MI}{tt:MT}{te:ME}{ix:List Nat}{σ:St}{H:Hp}{Q R:VK} (hR:∀v H,gx Q v H->R v H) (t:tM K g E00 (c7 nl mi ix tt te) σ H Q):FR (tMI K g E00 mi) ix (tMT K g E00 tt) (tM K g E00 te) σ H R:=by
 obtain⟨α,env,h,s,w⟩:=t
 rw[CK] at w
 refine⟨α,env,h,s,w.bind.mono fun sr h1 _ w1 J H1 α1 e1 hr1 rd=>fun acc hacc=>?_⟩
 obtain⟨hf,w1⟩:=WQ.cO w1
 have s1:=s.ext e1 hr1
 refine⟨fun i m ys H=>∃α h as,Ext K α1 H1 α H/\aK K g α H h/\ao K g α H as ys/\H acc=some (.lst ys)/\acc∉α/\as.length+m<=1000000 ∧
  WQ K g E00 α1 H1 ((gm sr.rdr tt te (j8 ix env) m i as h).bind nl) (aB K g α1 H1 Q),
  ⟨sr.fuel h1,α1,h1,[],Ext.fresh hacc,hr1.grow hacc,.nil,aL,hr1.free hacc,by simp_all,w1.post e1⟩,?_⟩
 rintro i m ys H2 ⟨α2,h2,as,x2,hr2,ra,ha,hna,hm,w2⟩
 have q:=rd α2 H2 h2 x2 hr2 i
 unfold gm at w2
 cases e:sr.rdr h2 i with
 | none=>rw[e] at w2;exact w2.elim
 | some od=>
  rw[e] at w2 q
  cases od with
  | none=>
   refine .inl ⟨q,?_⟩
   exact hR _ _ <| iz.at' (show WQ K g E00 α1 H1 (nl as h2) _ from w2) (fun _ _ z=>z) x2 hr2 ra ha hna hacc
  | some d=>
   cases m with
   | zero=>exact w2.elim
   | succ m=>
    rw[bA] at w2
    have w3:=WQ.bind (show WQ K g E00 α1 H1 ((tt (j8 ix env d) h2).bind _) _ from w2)
    refine .inr ⟨q.1,fun x H3 y=>?_⟩
    obtain⟨α3,x3,hr3,rx⟩:=q.2 x H3 y
    have ha3:=x3.keep _ _ ha hna
    have hna3:acc∉α3:=fun z=>by have:=x3.new _ z hna;simp_all
    have s3:cM K g α3 H3 (j8 ix env d) ((uO ix σ).set 0 (some x)) h2:=⟨hr3,Fz (s1.vs.ext (x2.trans x3)) rx⟩
    refine tMT.use s3 ((w3.ext x2).ext x3) fun b h4 H4 α4 x4 s4 w4=>?_
    have ha4:=x4.keep _ _ ha3 hna3
    have hna4:acc∉α4:=fun z=>by have:=x4.new _ z hna3;simp_all
    cases b with
    | false=>
     exact⟨m,P2 _,α4,h4,as,x2.trans (x3.trans x4),s4.heap,ra.ext (x3.trans x4),ha4,hna4,by omega,w4⟩
    | true=>
     rw[if_pos rfl] at w4 ⊢
     rw[bA] at w4
     refine tM.use s4 (((WQ.bind w4).ext x2).ext (x3.trans x4)) fun y h5 v5 H5 α5 x5 s5 r5 w5=>?_
     have ha5:=x5.keep _ _ ha4 hna4
     have hna5:acc∉α5:=fun z=>by have:=x5.new _ z hna4;simp_all
     have soft:Ei H5 acc:=.inr ⟨_,ha5,fun _ z=>(nomatch z),fun _ _ z=>(nomatch z),fun _ z=>nomatch z⟩
     have x6:Ex0 K α5 H5 α5 (upd H5 acc (.lst (ys++[v5]))):=Ex0.upd soft
     have tr:=x2.trans (x3.trans (x4.trans x5))
     refine⟨ha5,?_,m,P2 _,α5,h5,as++[y],⟨tr.toEx0.trans x6,fun p o z n nt=>?_,tr.new⟩,s5.heap.off soft hna5,((ra.ext (x3.trans (x4.trans x5))).append (.cons r5 .nil)).ex0 x6,aL,hna5,by grind,w5⟩
     ·rw[<- ra.length,OY];omega
     ·rw[aw (aE z hacc)];exact tr.kept p o z n nt
end
noncomputable def sml (i:Int):Bool:=decide (i.natAbs<2 ^ 1900)
def mW (h:sml i=true):QX i<=1900:=by
 have h':=of_decide_eq_true h
 unfold QX
 split
 ·omega
 ·rename_i z
  have z':i.natAbs≠0:=by
   simp_all
  have:=(Nat.log2_lt z').mpr h'
  omega
def qX (h:sml i=true):i.natAbs.log2<1900:=by
 have h':=of_decide_eq_true h
 by_cases z:i.natAbs=0
 ·simp_all
 ·exact(Nat.log2_lt z).mpr h'
def G5 (h:i.natAbs<=10 ^ 560):sml i=true:=by
 refine decide_eq_true (Nat.lt_of_le_of_lt h (by omega))
section
variable {X:Cx}{K:ND}{g:GG}{ε:EE}
def OpR.or (h:OpR X f r) (h':OpR X f r'):OpR X f (fun x y H Q=>r x y H Q\/r' x y H Q):=fun pins s σ H x y v u Q I rx ry q=>q.elim (h pins s σ H x y v u Q I rx ry) (h' pins s σ H x y v u Q I rx ry)
noncomputable def gM (d:D) (h:Hh):Option (List D):=match d with
 | .frl ds=>some ds
 | .ref n=>aq h n
 | _=>none
def qE (r:aK K g α H h) (rd:aC K g α H d x) (e:gM d h=some ds):∃p vs,x=.ref p/\Rd H p (.lst vs)/\ao K g α H ds vs:=by
 cases rd with
 | frl hq rs=>cases e;exact⟨_,_,rfl,hq.rd,rs⟩
 | ref hp=>obtain⟨vs,hv,rs⟩:=r.lst e hp;exact⟨_,vs,rfl,.inl hv,rs⟩
 | _=>cases e
noncomputable def Gb:R2:=fun x y H Q=>∃l b xs zs,x=.ref l/\y=.ref b/\Rd H l (.lst xs)/\Rd H b (.lst zs)/\xs.length+zs.length<=sizeLine/\∀p,H p=none->Q (.ref p) (upd H p (.lst (xs++zs)))
def Eb {σ:St} (I:Inv X pins σ H s) (h:Rd H l (.lst xs)):∃its n,xs.length<=sizeLine/\Vals xs its/\xs.length=its.length/\s.heap.get? l=some { cls:=.type "list", data:=.seq its.toArray n }:=by
 obtain⟨z,its,n,r,e⟩:=h.ok I.hok
 exact⟨its,n,z,r,r.length,e⟩
def EB:OpR X (binaryOp .Add) Gb:=by
 intro pins s σ H x y v u Q I rx ry h
 obtain⟨l,b,xs,zs,rfl,rfl,hH,hB,hz,q⟩:=h
 cases rx
 cases ry
 obtain⟨its,n,z,r,hl,e⟩:=Eb I hH
 obtain⟨its2,n2,z2,r2,hl2,e2⟩:=Eb I hB
 refine PySem.P.add_list e e2 ?_ (by simp_all)
 have ea:its.toArray++its2.toArray=(its++its2).toArray:=by simp
 rw[ea]
 exact⟨.ref _,_,I.EX (r.append r2) (by simp_all),rfl,q _ I.fresh⟩
noncomputable def bY (nl:NL):D->D->Hh->R D:=fun x y h=>match x,y with
 | .int i,.int j=>.ok (.int (i+j)) h
 | .tup a,.tup b=>if a.length+b.length<=1000000 then .ok (.tup (a++b)) h else .bad
 | .str a,.str b=>if a.length+b.length<=1000000 then .ok (.str (a++b)) h else .bad
 | x,y=>match gM x h,gM y h with
  | some a,some b=>if a.length+b.length<=1000000 then nl (a++b) h else .bad
  | _,_=>.bad
noncomputable abbrev Ax (K:ND):R2:=fun x y H Q=>(rI0 fun i j=>.int (i+j)) x y H Q\/(FW K x y H Q\/C1 K x y H Q)\/Gb x y H Q\/∃i j,x=.str i/\y=.str j/\i.length+j.length<=sizeLine/\Q (.str (i++j)) H
def Im:OpR X (binaryOp .Add) (fun x y H Q=>Ax X.K x y H (gx Q)):=OpR.frz (OpR.or HP (OpR.or (OpR.or D9 Ay) (OpR.or EB wY)))
def aB.za (p:aB K g α H Q d h) (r:aK K g α H h) (rd:aC K g α H d v):gx Q v H:=.inl (p.now r rd)
def G2 [iz nl]:dz K g ε (bY nl) (fun x y H Q=>Ax K x y H (gx Q)):=by
 intro α H h a b x y Q r ra rb w
 have gen:∀{a b:D} {x y:V},aC K g α H a x->aC K g α H b y->WQ K g ε α H (match gM a h,gM b h with
  | some a,some b=>if a.length+b.length<=1000000 then nl (a++b) h else .bad
  | _,_=>.bad) (aB K g α H Q)->Ax K x y H (gx Q):=by
  intro a b x y ra rb w
  cases e1:gM a h with
  | none=>simp only[e1] at w;exact w.elim
  | some da=>
   cases e2:gM b h with
   | none=>simp only[e1,e2] at w;exact w.elim
   | some db=>
    simp only[e1,e2] at w
    obtain⟨p,va,rfl,hva,rsa⟩:=qE r ra e1
    obtain⟨q,vb,rfl,hvb,rsb⟩:=qE r rb e2
    obtain⟨hl,w⟩:=WQ.cO w
    refine .inr (.inr (.inl ⟨p,q,va,vb,rfl,rfl,hva,hvb,eZ (by rw[<- rsa.length,<- rsb.length];exact hl),fun l hl'=>?_⟩))
    exact NL.post w r (rsa.append rsb) hl'
 unfold bY at w
 split at w
 ·cases ra
  cases rb
  exact .inl ⟨_,_,rfl,rfl,aB.za w r (.int _)⟩
 ·cases ra with
  | @tup da pa va ha rsa=>
   cases rb with
   | @tup db pb vb hb rsb=>
    obtain⟨hl,w⟩:=WQ.cO w
    refine .inr (.inl ?_)
    cases va with
    | nil=>
     cases rsa
     exact .inr ⟨_,_,_,rfl,rfl,SqT.of ha,SqT.of hb,aB.za w r (.tup hb rsb)⟩
    | cons z zs=>
     refine .inl ⟨_,_,_,_,rfl,rfl,SqT.of ha,SqT.of hb,by simp,eZ (by rw[<- rsa.length,<- rsb.length];exact hl),fun e=>?_,fun _ p hp=>.inl (aB.tup w r (rsa.append rsb) hp)⟩
     subst e
     cases rsb
     refine aB.za w r (.tup ha ?_)
     simp_all
 ·cases ra
  cases rb
  obtain⟨hl,w⟩:=WQ.cO w
  exact .inr (.inr (.inr ⟨_,_,rfl,rfl,eZ hl,aB.za w r (.str _)⟩))
 grind
noncomputable def kh:D->D->Hh->R D
 | .int i,.int j,h=>.ok (.int (i - j)) h
 | _,_,_=>.bad
def GN:dz K g ε kh (rI0 fun i j=>.int (i - j)):=by
 intro α H h a b x y Q r ra rb w
 cases ra with
 | int i=>
  cases rb with
  | int j=>exact⟨i,j,rfl,rfl,aB.now w r (.int _)⟩
  | _=>exact w.elim
 | _=>exact w.elim
noncomputable def FP:R2:=fun x y H Q=>∃l k xs,x=.ref l/\y=.int k/\Rd H l (.lst xs)/\-(2 ^ 63)<=k/\k<2 ^ 63/\xs.length*k.toNat<=sizeLine ∧
 ∀p,H p=none->Q (.ref p) (upd H p (.lst (N1 k.toNat xs).flatten))
def E8:OpR X (binaryOp .Mult) FP:=by
 intro pins s σ H x y v u Q I rx ry h
 obtain⟨l,k,xs,rfl,rfl,hH,h1,h2,hz,q⟩:=h
 cases rx
 obtain⟨t,rfl⟩:=ry
 obtain⟨its,n,z,r,hl,e⟩:=Eb I hH
 have hlen:its.toArray.size*k.toNat<=sizeLine:=by simp_all
 have hcap:¬ its.toArray.size*k.toNat > (2 ^ 63 - 1) / 8:=by
  have:(sizeLine:Nat)<=(2 ^ 63 - 1) / 8:=by decide
  omega
 have hfit:¬ (!Builtin.List.listFitsIndex k)=true:=by
  rw[fitsIndex_both h1 h2]
  simp
 have hlong:¬ Qh (its.toArray.size*k.toNat)=true:=by
  rw[ur hlen]
  simp
 have hnew:Ug (fun x1 x2=>x1++x2) #[] (N1 (if its.toArray.isEmpty=true then 0 else k.toNat) its.toArray)=(N1 k.toNat its).flatten.toArray:=by
  have f0:=fun m=>by
   have:=foldl_rep its m []
   rw[QA] at this
   exact this
  rw[f0]
  cases its with
  | nil=>simp
  | cons a r'=>rfl
 refine wpAny_binaryOp_repeat_ref (by decide) ⟨_,e,rfl⟩ (fun s'=>Ue s' k t) noFill_list_mul F.fills_int_mul F.slot_int_rmul repeat_list F.slot_int_index.lookup
  (Sq F.slot_int_rmul (Ue s k t) F.entry_int_rmul (F.args_int_rmul_2 _ _) (int___rmul___int_list k t l its.toArray n)
   ⟨e,rfl,⟨_,e,rfl⟩,Sq F.slot_list_mul ⟨_,e,rfl⟩ F.entry_list_mul (F.args_list_mul_2 _ _) (AutoListH.list___mul___list_int_3 l its.toArray n k t hfit hcap hlong) ⟨e,?_⟩⟩)
 rw[hnew]
 exact⟨.ref _,_,I.EX (r.rep k.toNat) (by rw[len_rep,TY];exact hz),rfl,q _ I.fresh⟩
noncomputable def sJ (nl:NL):D->D->Hh->R D:=fun x y h=>match x,y with
 | .int i,.int j=>if sml i=true/\sml j=true then .ok (.int (i*j)) h else .bad
 | x,.int k=>match gM x h with
  | some ds=>if k.natAbs<=1000000/\ds.length*k.toNat<=1000000 then nl (N1 k.toNat ds).flatten h else .bad
  | none=>.bad
 | _,_=>.bad
def DN:OpR X (binaryOp .Mult) (rI (fun i j=>sml i=true/\sml j=true) fun i j=>.int (i*j)):=opI fun _ _ _ _ _ _ _ hc q=>mul_int q (IntMulOk.of_bits (N4 (mW hc.1) (by decide)) (N4 (mW hc.2) (by decide)))
noncomputable abbrev Au:R2:=fun x y H Q=>(rI (fun i j=>sml i=true/\sml j=true) fun i j=>.int (i*j)) x y H Q\/FP x y H Q
def IH:OpR X (binaryOp .Mult) (fun x y H Q=>Au x y H (gx Q)):=OpR.frz (OpR.or DN E8)
def IS [iz nl]:dz K g ε (sJ nl) (fun x y H Q=>Au x y H (gx Q)):=by
 intro α H h a b x y Q r ra rb w
 have gen:∀{a:D} {k:Int} {x:V},aC K g α H a x->WQ K g ε α H (match gM a h with
  | some ds=>if k.natAbs<=1000000/\ds.length*k.toNat<=1000000 then nl (N1 k.toNat ds).flatten h else .bad
  | none=>.bad) (aB K g α H Q)->Au x (.int k) H (gx Q):=by
  intro a k x ra w
  cases e1:gM a h with
  | none=>simp only[e1] at w;exact w.elim
  | some ds=>
   simp only[e1] at w
   obtain⟨hl,w⟩:=WQ.cO w
   obtain⟨p,vs,rfl,hv,rs⟩:=qE r ra e1
   refine .inr ⟨p,k,vs,rfl,rfl,hv,by omega,by omega,eZ (by rw[<- rs.length];omega),fun l hl'=>?_⟩
   exact NL.post w r (rs.flat k.toNat) hl'
 unfold sJ at w
 split at w
 ·cases ra
  cases rb
  obtain⟨hc,w⟩:=WQ.cO w
  exact .inl ⟨_,_,rfl,rfl,hc,aB.za w r (.int _)⟩
 ·cases rb
  grind
 ·exact w.elim
noncomputable def DA:D->D->Hh->R D
 | .int i,.int j,h=>if 0<j/\sml j=true then .ok (.int (i / j)) h else .bad
 | _,_,_=>.bad
def BF:OpR X (binaryOp .FloorDiv) (rI (fun i j=>0<j/\sml j=true) fun i j=>.int (i / j)):=opI fun i j _ _ _ _ _ hc q=>by
 have e:i.fdiv j=i / j:=Int.fdiv_eq_ediv_of_nonneg _ (by omega)
 refine floordiv_int (by omega) ?_ (.inl (PyProof.noPylong_of_log2 (Q0 (qX hc.2) (by decide))))
 simp_all
def IY:dz K g ε DA (rI (fun i j=>0<j/\sml j=true) fun i j=>.int (i / j)):=by
 intro α H h a b x y Q r ra rb w
 cases ra with
 | int i=>
  cases rb with
  | int j=>
   obtain⟨hc,w⟩:=WQ.cO w
   exact⟨i,j,rfl,rfl,hc,aB.now w r (.int _)⟩
  | _=>exact w.elim
 | _=>exact w.elim
noncomputable def wx:D->D->Hh->R D
 | .int i,.int j,h=>if 0<j then .ok (.int (i % j)) h else .bad
 | _,_,_=>.bad
def IU:dz K g ε wx (rI (fun _ j=>0<j) fun i j=>.int (i % j)):=by
 intro α H h a b x y Q r ra rb w
 cases ra with
 | int i=>
  cases rb with
  | int j=>
   obtain⟨hc,w⟩:=WQ.cO w
   exact⟨i,j,rfl,rfl,hc,aB.now w r (.int _)⟩
  | _=>exact w.elim
 | _=>exact w.elim
noncomputable def G3:D->D->Hh->R D
 | .int i,.int j,h=>if 0<=j/\j.natAbs<=1000/\sml i=true then .ok (.int (i ^ j.toNat)) h else .bad
 | _,_,_=>.bad
def E4:OpR X (binaryOp .Pow) (rI (fun i j=>0<=j/\j.natAbs<=1000/\sml i=true) fun i j=>.int (i ^ j.toNat)):=opI fun i j _ _ _ _ _ hc q=>pow_int hc.1 (by
 have:=mW hc.2.2
 have h1:((QX i:Nat):Int)<=1900:=by omega
 calc ((QX i:Nat):Int)*j<=1900*j:=OZ h1 hc.1
  _<=1900*1000:=Int.mul_le_mul_of_nonneg_left (show j<=1000 by omega) (by decide)
  _<=2 ^ 27:=by decide) q
def Hd:dz K g ε G3 (rI (fun i j=>0<=j/\j.natAbs<=1000/\sml i=true) fun i j=>.int (i ^ j.toNat)):=by
 intro α H h a b x y Q r ra rb w
 cases ra with
 | int i=>
  cases rb with
  | int j=>
   obtain⟨hc,w⟩:=WQ.cO w
   exact⟨i,j,rfl,rfl,hc,aB.now w r (.int _)⟩
  | _=>exact w.elim
 | _=>exact w.elim
noncomputable def vf:D->Hh->R D
 | .int i,h=>.ok (.int (-i)) h
 | _,_=>.bad
def wC:KJ K g ε vf (rU fun i=>.int (-i)):=by
 intro α H h a x Q r ra w
 cases ra with
 | int i=>exact⟨i,rfl,aB.now w r (.int _)⟩
 | _=>exact w.elim
noncomputable def CG (p:Int->Int->Bool):D->D->Hh->R D
 | .int i,.int j,h=>.ok (.bl (p i j)) h
 | _,_,_=>.bad
noncomputable def ltI:Int->Int->Bool
 | .ofNat a,.ofNat b=>Ut a b
 | .ofNat _,.negSucc _=>false
 | .negSucc _,.ofNat _=>true
 | .negSucc a,.negSucc b=>Ut b a
def nR:ltI=fun i j=>decide (i<j):=by
 funext i j
 cases i with
 | ofNat a=>
  cases j with
  | ofNat b=>
   show Ut a b=_
   rw[S6,Nat.blt_eq,decide_eq_true_iff]
   simp
  | negSucc b=>rfl
 | negSucc a=>
  cases j with
  | ofNat b=>exact(decide_eq_true (by grind)).symm
  | negSucc b=>
   show Ut b a=_
   rw[S6,Nat.blt_eq,decide_eq_true_iff]
   omega
noncomputable def leI (i j:Int):Bool:=!ltI j i
def rW:leI=fun i j=>decide (i<=j):=by
 funext i j
 unfold leI
 rw[nR,S6]
 simp
noncomputable def dLt:D->D->Hh->R D:=CG ltI
noncomputable def dLe:D->D->Hh->R D:=CG leI
noncomputable def dGt:D->D->Hh->R D:=CG fun i j=>ltI j i
noncomputable def dGe:D->D->Hh->R D:=CG fun i j=>leI j i
def rq:dz K g ε (CG p) (rI0 fun i j=>.bl (p i j)):=by
 intro α H h a b x y Q r ra rb w
 cases ra with
 | int i=>
  cases rb with
  | int j=>exact⟨i,j,rfl,rfl,aB.now w r (.bl _)⟩
  | _=>exact w.elim
 | _=>exact w.elim
def FG:dz K g ε dLt (rI0 fun i j=>.bl (decide (i<j))):=by
 unfold dLt;rw[nR];exact rq
def xc:dz K g ε dLe (rI0 fun i j=>.bl (decide (i<=j))):=by
 unfold dLe;rw[rW];exact rq
def JM:dz K g ε dGt (rI0 fun i j=>.bl (decide (j<i))):=by
 unfold dGt;rw[nR];exact rq
def Ko:dz K g ε dGe (rI0 fun i j=>.bl (decide (j<=i))):=by
 unfold dGe;rw[rW];exact rq
noncomputable def e9 (d:D) (h:Hh):Option (List D):=match d with
 | .tup ds=>some ds
 | .frl ds=>some ds
 | .scr ds=>some ds
 | .ref n=>aq h n
 | _=>none
def mw (r:aK K g α H h) (rd:aC K g α H d x) (e:e9 d h=some ds):∃p vs,x=.ref p/\(SqL K H p vs\/SqT K H p vs)/\ao K g α H ds vs:=by
 cases rd with
 | tup hq rs=>cases e;exact⟨_,_,rfl,.inr (SqT.of hq),rs⟩
 | frl hq rs=>cases e;exact⟨_,_,rfl,.inl hq.sq,rs⟩
 | scr hq rs=>cases e;exact⟨_,_,rfl,.inl hq.sq,rs⟩
 | ref hp=>obtain⟨vs,hv,rs⟩:=r.lst e hp;exact⟨_,vs,rfl,.inl (SqL.of hv),rs⟩
 | _=>cases e
noncomputable def dIx:D->D->Hh->R D:=fun a b h=>match e9 a h,b with
 | some ds,.int i=>match atI ds i with
  | some d=>.ok d h
  | none=>.bad
 | _,_=>.bad
def xv (rs:ao K g α H ds vs) (e:atI ds i=some d):∃v,atI vs i=some v/\aC K g α H d v:=by
 unfold atI at e ⊢
 rw[<- rs.length]
 cases e1:ixN ds.length i with
 | none=>simp_all
 | some j=>
  rw[e1] at e
  exact rs.get e
def Lb:dz K g ε dIx (rIx K):=by
 intro α H h a b x y Q r ra rb w
 unfold dIx at w
 cases e1:e9 a h with
 | none=>simp only[e1] at w;exact w.elim
 | some ds=>
  simp only[e1] at w
  obtain⟨p,vs,rfl,hq,rs⟩:=mw r ra e1
  cases rb with
  | int i=>
   cases e2:atI ds i with
   | none=>simp only[e2] at w;exact w.elim
   | some d=>
    simp only[e2] at w
    obtain⟨v,ev,rv⟩:=xv rs e2
    rcases hq with hq | hq
    ·exact .inl ⟨p,vs,i,v,rfl,rfl,hq,ev,aB.now w r rv⟩
    ·exact .inr (.inl ⟨p,vs,i,v,rfl,rfl,hq,ev,aB.now w r rv⟩)
  | _=>exact w.elim
noncomputable def f_:D->D->D->Hh->R Unit:=fun o i v h=>match o,i with
 | .ref n,.int k=>match aq h n with
  | some ds=>match ixN ds.length k with
   | some j=>.ok () (h.set n (.lst (ds.set j v)))
   | none=>.bad
  | none=>.bad
 | _,_=>.bad
def mX:Jk K g ε f_ F1:=by
 intro α H h o i v x y z Q r ro ri rv w
 unfold f_ at w
 cases ro with
 | @ref n p hp=>
  cases ri with
  | int k=>
   cases e1:aq h n with
   | none=>simp only[e1] at w;exact w.elim
   | some ds=>
    simp only[e1] at w
    cases e2:ixN ds.length k with
    | none=>simp only[e2] at w;exact w.elim
    | some j=>
     simp only[e2] at w
     obtain⟨vs,hv,rs⟩:=r.lst e1 hp
     refine⟨p,vs,k,j,rfl,rfl,hv,by rw[<- rs.length];exact e2,?_⟩
     have x:=Ext.write (o:=.lst (vs.set j z)) r hp
     exact w _ α x (r.write hp ⟨_,aL,(rs.set rv j).ext x⟩)
  | _=>exact w.elim
 | _=>exact w.elim
noncomputable def cutD (xs:List D) (lo hi:Option Int):List D:=(xs.drop (HT.sIx xs.length 0 lo)).take (HT.sIx xs.length xs.length hi - HT.sIx xs.length 0 lo)
def jI (rs:ao K g α H ds vs) (lo hi):ao K g α H (cutD ds lo hi) (oJ vs lo hi):=by
 unfold cutD oJ
 rw[<- rs.length]
 exact(rs.drop _).take _
noncomputable abbrev MO:=En->Hh->R (Option Int)
noncomputable def pU (a:ME):MO:=fun env h=>(a env h).bind fun d h1=>match d with
 | .int i=>.ok (some i) h1
 | _=>.bad
noncomputable def tMO (K:ND) (g:GG) (ε:EE) (m:MO):TO:=fun σ H Q=>∃α env h,cM K g α H env σ h/\WQ K g ε α H (m env h) fun o h'=>∀H' α',Ext K α H α' H'->aK K g α' H' h'->Q o H'
def PO.imp (h:PO X e t) (i:∀σ H Q,t' σ H Q->t σ H Q):PO X e t':=fun pins s σ H Q I w=>h pins s σ H Q I (i σ H Q w)
def yK {e:Expr}{me:ME} (he:PE X e (tM X.K g ε me)):PO X (some e) (tMO X.K g ε (pU me)):=PO.imp (DF he) fun σ H Q ⟨α,env,h,s,w⟩=>tM.use s w.bind fun d1 h1 v1 H1 α1 e1 s1 r1 w1=>by
 cases r1 with
 | int i=>exact⟨i,rfl,w1 H1 α1 e1 s1.heap⟩
 | _=>exact w1.elim
noncomputable def Fe (nl:NL):D->Option Int->Option Int->Hh->R D:=fun d lo hi h=>match d with
 | .tup ds=>.ok (.tup (cutD ds lo hi)) h
 | .frl ds=>nl (cutD ds lo hi) h
 | .scr ds=>nl (cutD ds lo hi) h
 | .ref n=>match aq h n with
  | some ds=>nl (cutD ds lo hi) h
  | none=>.bad
 | _=>.bad
noncomputable def rL (nl:NL) (a:ME) (l u:MO):ME:=fun env h=>(a env h).bind fun x h1=>(l env h1).bind fun lo h2=>(u env h2).bind fun hi h3=>Fe nl x lo hi h3
def tMO.use (s:cM K g α H env σ h) (w:WQ K g ε α H (m env h) k)
  (q:∀d h' H' α',Ext K α H α' H'->cM K g α' H' env σ h'->k d h'->Q d H'):tMO K g ε m σ H Q:=
 ⟨α,env,h,s,w.mono fun d h' _ kk H' α' e r=>q d h' H' α' e (s.ext e r) kk⟩
def CH {nl:NL} [iz nl]{e:Expr}{me:ME}{lo hi:Option Expr}{ml mh:MO}{p2 pos:Pos} (he:PE X e (tM X.K g ε me)) (hl:PO X lo (tMO X.K g ε ml)) (hu:PO X hi (tMO X.K g ε mh)):PE X (.Subscript e (.Slice lo hi none p2) pos) (tM X.K g ε (rL nl me ml mh)):=
 PE.imp (PE.frz (BZ (SlR.or Ff (SlR.or H_ Fd)) he hl hu)) fun σ H Q ⟨α,env,h,s,w⟩=>tM.use s w.bind fun d1 h1 v1 H1 α1 e1 s1 r1 w1=>tMO.use s1 (w1.ext e1).bind fun o2 h2 H2 α2 e2 s2 w2=>tMO.use s2 (w2.ext e2).bind fun o3 h3 H3 α3 e3 s3 w3=>by
  have tr:=e1.trans (e2.trans e3)
  have r3:=r1.ext (e2.trans e3)
  have w4:=(w3.ext e3).mono fun _ _ _ p=>aB.ext tr p
  unfold Fe at w4
  cases r3 with
  | @frl ds p vs hq rs=>exact .inl ⟨_,_,rfl,hq.sq,fun l hl=>NL.post w4 s3.heap (jI rs _ _) hl⟩
  | @scr ds p vs hq rs=>exact .inl ⟨_,_,rfl,hq.sq,fun l hl=>NL.post w4 s3.heap (jI rs _ _) hl⟩
  | @ref n p hp=>
   cases e1:aq h3 n with
   | none=>simp only[e1] at w4;exact w4.elim
   | some ds=>
    simp only[e1] at w4
    obtain⟨vs,hv,rs⟩:=s3.heap.lst e1 hp
    exact .inl ⟨_,_,rfl,SqL.of hv,fun l hl=>NL.post w4 s3.heap (jI rs _ _) hl⟩
  | @tup ds p vs hq rs=>
   refine .inr ?_
   by_cases hw:HT.sIx vs.length 0 o2=0/\HT.sIx vs.length vs.length o3=vs.length
   ·refine .inr ⟨_,_,rfl,SqT.of hq,hw.1,hw.2,?_⟩
    refine aB.za w4 s3.heap (.tup hq ?_)
    have:oJ vs o2 o3=vs:=by unfold oJ;simp_all
    have q:=jI rs o2 o3
    simp_all
   ·exact .inl ⟨_,_,rfl,SqT.of hq,hw,fun l hl=>.inl (aB.tup w4 s3.heap (jI rs _ _) hl)⟩
  | _=>exact w4.elim
end
noncomputable def eg:D->Bool
 | .non=>true | .bl _=>true | .int _=>true | .str _=>true
 | _=>false
noncomputable def eqF:D->D->Bool
 | .non,.non=>true
 | .bl a,.bl b=>a == b
 | .bl a,.int b=>(if a then 1 else 0) == b
 | .int a,.bl b=>a == (if b then 1 else 0)
 | .int a,.int b=>a == b
 | .str a,.str b=>a == b
 | _,_=>false
noncomputable def eqL (f:D->D->Option Bool):List D->List D->Option Bool
 | x::xs,y::ys=>match f x y,eqL f xs ys with
  | some b,some c=>some (b&&c)
  | _,_=>none
 | [],[]=>some true
 | _,_=>some false
inductive Vw where
 | fl | tp (ds:List D) | ls (ds:List D) | no
noncomputable def vw (d:D) (h:Hh):Vw:=match d with
 | .non=>.fl | .bl _=>.fl | .int _=>.fl | .str _=>.fl
 | .tup ds=>.tp ds
 | .frl ds=>.ls ds
 | .scr ds=>.ls ds
 | .ref n=>match aq h n with
  | some ds=>.ls ds
  | none=>.no
 | _=>.no
noncomputable def eqD:Nat->Hh->D->D->Option Bool
 | 0,_,_,_=>none
 | k+1,h,a,b=>match vw a h,vw b h with
  | .fl,.fl=>some (eqF a b)
  | .tp xs,.tp ys=>eqL (eqD k h) xs ys
  | .ls xs,.ls ys=>if xs.length=ys.length then eqL (eqD k h) xs ys else some false
  | .fl,.tp _=>some false
  | .fl,.ls _=>some false
  | .tp _,.fl=>some false
  | .tp _,.ls _=>some false
  | .ls _,.fl=>some false
  | .ls _,.tp _=>some false
  | _,_=>none
section
variable {K:ND}{g:GG}{α:List Addr}{H:Hp}{h:Hh}
theorem n6 {f:D->D->Option Bool} (hf:∀a b x c,aC K g α H a x->aC K g α H b x->f a b=some c->c=true):∀{xs ys:List D}{vs:List V}{c:Bool},ao K g α H xs vs->ao K g α H ys vs->eqL f xs ys=some c->c=true
 | _,_,_,_,.nil,.nil,e=>by simp[eqL] at e;exact e
 | _,_,_,c,.cons r t,.cons r' t',e=>by
  unfold eqL at e
  split at e
  ·rename_i b c' h1 h2
   have e1:=hf _ _ _ _ r r' h1
   have e2:=n6 hf t t' h2
   simp_all
  grind
def nO (rd:aC K g α H d x) (e:vw d h=.fl):eg d=true:=by
 cases rd with
 | ref hp=>unfold vw at e;grind
 | _=>first | rfl | cases e
def lF (rd:aC K g α H d x) (e:vw d h=.tp ds):∃p vs,x=.ref p/\SqT K H p vs/\ao K g α H ds vs:=by
 cases rd with
 | tup hp rs=>cases e;exact⟨_,_,rfl,SqT.of hp,rs⟩
 | ref hp=>unfold vw at e;grind
 | _=>cases e
def lC (r:aK K g α H h) (rd:aC K g α H d x) (e:vw d h=.ls ds):∃p vs,x=.ref p/\SqL K H p vs/\ao K g α H ds vs:=by
 cases rd with
 | frl hp rs=>cases e;exact⟨_,_,rfl,hp.sq,rs⟩
 | scr hp rs=>cases e;exact⟨_,_,rfl,hp.sq,rs⟩
 | @ref n p hp=>
  unfold vw at e
  simp only at e
  cases el:aq h n with
  | none=>simp_all
  | some ds'=>
   rw[el] at e;cases e
   obtain⟨vs,hv,rs⟩:=r.lst el hp
   exact⟨_,_,rfl,SqL.of hv,rs⟩
 | _=>cases e
theorem yH {f:D->D->Option Bool}:∀{xs ys:List D}{c:Bool},eqL f xs ys=some c →
  (∀(j:Nat) (x y:D),xs[j]?=some x->ys[j]?=some y->∃b,f x y=some b)/\c=((NQ (min xs.length ys.length)).all (fun j=>((f (xs.getD j .non) (ys.getD j .non)).getD false))&&xs.length == ys.length)
 | [],[],c,e=>by
  simp[eqL] at e
  grind
 | [],_::_,c,e=>by
  simp[eqL] at e
  simp_all
 | _::_,[],c,e=>by
  simp[eqL] at e
  simp_all
 | x::xs,y::ys,c,e=>by
  unfold eqL at e
  split at e
  ·rename_i b c' h1 h2
   obtain⟨q1,q2⟩:=yH h2
   refine⟨fun j x' y' hx hy=>?_,?_⟩
   ·grind
   ·have e':=(Qb e).symm
    rw[e',q2]
    have hm:min (x::xs).length (y::ys).length=min xs.length ys.length+1:=by simp
    rw[hm,List.range_succ_eq_map,Rc,List.all_map]
    grind
  grind
end
section
variable {X:Cx}{g:GG}{pins:List (Addr × Obj)}{σ:St}{H:Hp}{s:NM}{α:List Addr}{h:Hh}
open PySem.SeqAt
def Fw {K:ND} (ra:aC K g α H a x) (rb:aC K g α H b y) (ru:RelV x u) (rv:RelV y v) (fa:eg a=true) (fb:eg b=true) :
  EqAt A s u v (eqF a b)/\RcAt A s u v (eqF a b)/\TJ A s u v (!eqF a b):=by
 cases ra with
 | non=>
  cases ru
  cases rb with
  | non=>cases rv;exact⟨.same _,.none_none,.none_none⟩
  | bl z=>cases rv;exact⟨.none_bool z,.none_bool z,.none_bool z⟩
  | int z=>obtain⟨t,rfl⟩:=rv;exact⟨.none_int z t,.none_int z t,.none_int z t⟩
  | str z=>obtain⟨t,rfl⟩:=rv;exact⟨.none_str z t,.none_str z t,.none_str z t⟩
  | _=>cases fb
 | bl q=>
  cases ru
  cases rb with
  | non=>cases rv;exact⟨.bool_none q,.bool_none q,.bool_none q⟩
  | bl z=>cases rv;exact⟨.bool_bool q z,.bool_bool q z,.bool_bool q z⟩
  | int z=>obtain⟨t,rfl⟩:=rv;exact⟨.bool_int q z t,.bool_int q z t,.bool_int q z t⟩
  | str z=>obtain⟨t,rfl⟩:=rv;exact⟨.bool_str q z t,.bool_str q z t,.bool_str q z t⟩
  | _=>cases fb
 | int q=>
  obtain⟨t',rfl⟩:=ru
  cases rb with
  | non=>cases rv;exact⟨.int_none q t',.int_none q t',.int_none q t'⟩
  | bl z=>cases rv;exact⟨.int_bool q t' z,.int_bool q t' z,.int_bool q t' z⟩
  | int z=>obtain⟨t,rfl⟩:=rv;exact⟨.int_int q t' z t,.int_int q t' z t,.int_int q t' z t⟩
  | str z=>obtain⟨t,rfl⟩:=rv;exact⟨.int_str q t' z t,.int_str q t' z t,.int_str q t' z t⟩
  | _=>cases fb
 | str q=>
  obtain⟨t',rfl⟩:=ru
  cases rb with
  | non=>cases rv;exact⟨.str_none q t',.str_none q t',.str_none q t'⟩
  | bl z=>cases rv;exact⟨.str_bool q t' z,.str_bool q t' z,.str_bool q t' z⟩
  | int z=>obtain⟨t,rfl⟩:=rv;exact⟨.str_int q t' z t,.str_int q t' z t,.str_int q t' z t⟩
  | str z=>obtain⟨t,rfl⟩:=rv;exact⟨.str_str q t' z t,.str_str q t' z t,.str_str q t' z t⟩
  | _=>cases fb
 | _=>cases fa
def tG {K:ND} (ht:s.heap.IsTuple p its) (hu:A.units<cLine) (rb:aC K g α H b y) (rv:RelV y v) (fb:eg b=true) :
  (EqAt A s (.ref p) v false/\RcAt A s (.ref p) v false/\TJ A s (.ref p) v true)/\(EqAt A s v (.ref p) false/\RcAt A s v (.ref p) false/\TJ A s v (.ref p) true):=by
 cases rb with
 | non=>cases rv;exact⟨⟨.tuple_none ht hu,.tuple_none ht hu,.tuple_none ht hu⟩,.none_tuple ht hu,.none_tuple ht hu,.none_tuple ht hu⟩
 | bl z=>cases rv;exact⟨⟨.tuple_bool z ht hu,.tuple_bool z ht hu,.tuple_bool z ht hu⟩,.bool_tuple z ht hu,.bool_tuple z ht hu,.bool_tuple z ht hu⟩
 | int z=>obtain⟨t,rfl⟩:=rv;exact⟨⟨.tuple_int z t ht hu,.tuple_int z t ht hu,.tuple_int z t ht hu⟩,.int_tuple z t ht hu,.int_tuple z t ht hu,.int_tuple z t ht hu⟩
 | str z=>obtain⟨t,rfl⟩:=rv;exact⟨⟨.tuple_str z t ht hu,.tuple_str z t ht hu,.tuple_str z t ht hu⟩,.str_tuple z t ht hu,.str_tuple z t ht hu,.str_tuple z t ht hu⟩
 | _=>cases fb
def sP {K:ND} (ht:s.heap.IsList p its) (hu:A.units<cLine) (rb:aC K g α H b y) (rv:RelV y v) (fb:eg b=true) :
  (EqAt A s (.ref p) v false/\RcAt A s (.ref p) v false/\TJ A s (.ref p) v true)/\(EqAt A s v (.ref p) false/\RcAt A s v (.ref p) false/\TJ A s v (.ref p) true):=by
 cases rb with
 | non=>cases rv;exact⟨⟨.list_none ht hu,.list_none ht hu,.list_none ht hu⟩,.none_list ht hu,.none_list ht hu,.none_list ht hu⟩
 | bl z=>cases rv;exact⟨⟨.list_bool z ht hu,.list_bool z ht hu,.list_bool z ht hu⟩,.bool_list z ht hu,.bool_list z ht hu,.bool_list z ht hu⟩
 | int z=>obtain⟨t,rfl⟩:=rv;exact⟨⟨.list_int z t ht hu,.list_int z t ht hu,.list_int z t ht hu⟩,.int_list z t ht hu,.int_list z t ht hu,.int_list z t ht hu⟩
 | str z=>obtain⟨t,rfl⟩:=rv;exact⟨⟨.list_str z t ht hu,.list_str z t ht hu,.list_str z t ht hu⟩,.str_list z t ht hu,.str_list z t ht hu,.str_list z t ht hu⟩
 | _=>cases fb
def uk {A:Oa} (r:aK X.K g α H h)
  (ih:∀a b x y u v c , aC X.K g α H a x->aC X.K g α H b y->RelV x u->RelV y v->eqD k h a b=some c->EqAt A.in1 s u v c)
  (rs:ao X.K g α H ds vs) (rt:ao X.K g α H es us) (rv:Vals vs its) (ru:Vals us jts) (e:eqL (eqD k h) ds es=some c) :
  (∀j h1 (h2:j<jts.toArray.size),EqAt A.in1 s its.toArray[j] jts.toArray[j] ((fun(j:Nat)=>(eqD k h (ds.getD j .non) (es.getD j .non)).getD false) j)) ∧
  c=((NQ (min its.toArray.size jts.toArray.size)).all (fun(j:Nat)=>(eqD k h (ds.getD j .non) (es.getD j .non)).getD false)&&its.toArray.size == jts.toArray.size):=by
 obtain⟨q1,q2⟩:=yH e
 have l1:its.toArray.size=ds.length:=by rw[OW,<- rv.length,rs.length]
 have l2:jts.toArray.size=es.length:=by rw[OW,<- ru.length,rt.length]
 refine⟨fun j h1 h2=>?_,by simp_all⟩
 have hd:ds[j]?=some (ds.getD j .non):=by simp_all
 have he:es[j]?=some (es.getD j .non):=by simp_all
 obtain⟨b,hb⟩:=q1 j _ _ hd he
 obtain⟨x,hx,rx⟩:=rs.get hd
 obtain⟨y,hy,ry⟩:=rt.get he
 obtain⟨u,hu,rxu⟩:=rv.get hx
 obtain⟨v,hv,ryv⟩:=ru.get hy
 grind
def yq (I:Inv X pins σ H s) (a:SqT X.K H p vs) (b:SqL X.K H p us):False:=by
 obtain⟨its,r1,⟨o,e,c,_⟩,_⟩:=I.tuple a
 obtain⟨jts,r2,⟨o',n',e',c',_⟩,_⟩:=I.list b
 simp_all
theorem nq (I:Inv X pins σ H s) (r:aK X.K g α H h):∀(k:Nat) (a b:D) (x:V) (c:Bool),aC X.K g α H a x->aC X.K g α H b x->eqD k h a b=some c->c=true
 | 0,_,_,_,_,_,_,e=>by cases e
 | k+1,a,b,x,c,ra,rb,e=>by
  unfold eqD at e
  cases ea:vw a h with
  | no=>simp_all
  | fl=>
   have fa:=nO ra ea
   cases eb:vw b h with
   | no=>simp_all
   | fl=>
    simp only[ea,eb] at e
    cases e
    cases ra with
    | non=>cases rb with
     | non=>rfl
    | bl z=>cases rb with
     | bl _=>simp[eqF]
    | int z=>cases rb with
     | int _=>simp[eqF]
    | str z=>cases rb with
     | str _=>simp[eqF]
    | _=>cases fa
   | tp ds=>obtain⟨p,vs,rfl,_⟩:=lF rb eb;cases ra<;>cases fa
   | ls ds=>obtain⟨p,vs,rfl,_⟩:=lC r rb eb;cases ra<;>cases fa
  | tp da=>
   obtain⟨p,va,rfl,hp,rs⟩:=lF ra ea
   cases eb:vw b h with
   | no=>simp_all
   | fl=>have fb:=nO rb eb;cases rb<;>cases fb
   | tp db=>
    simp only[ea,eb] at e
    obtain⟨q,vb,hpq,hq,rt⟩:=lF rb eb
    cases hpq
    have:=I.kL hp hq
    subst this
    exact n6 (fun a b x c=>nq I r k a b x c) rs rt e
   | ls db=>
    obtain⟨q,vb,hpq,hq,rt⟩:=lC r rb eb
    cases hpq
    exact(yq I hp hq).elim
  | ls da=>
   obtain⟨p,va,rfl,hp,rs⟩:=lC r ra ea
   cases eb:vw b h with
   | no=>simp_all
   | fl=>have fb:=nO rb eb;cases rb<;>cases fb
   | tp db=>
    obtain⟨q,vb,hpq,hq,rt⟩:=lF rb eb
    cases hpq
    exact(yq I hq hp).elim
   | ls db=>
    simp only[ea,eb] at e
    obtain⟨q,vb,hpq,hq,rt⟩:=lC r rb eb
    cases hpq
    have:=I.mZ hp hq
    subst this
    rw[if_pos (by rw[rs.length,rt.length])] at e
    exact n6 (fun a b x c=>nq I r k a b x c) rs rt e
theorem vJ (I:Inv X pins σ H s) (r:aK X.K g α H h):∀(k:Nat) (A:Oa) (a b:D) (x y:V) (u v:NI) (c:Bool),A.units+k<cLine->aC X.K g α H a x->aC X.K g α H b y->RelV x u->RelV y v->eqD k h a b=some c →
  EqAt A s u v c/\RcAt A s u v c/\TJ A s u v (!c)
 | 0,_,_,_,_,_,_,_,_,_,_,_,_,_,e=>by cases e
 | k+1,A,a,b,x,y,u,v,c,hu,ra,rb,ru,rv,e=>by
  have hu0:A.units<cLine:=by omega
  have ih:∀(a b:D) (x y:V) (u v:NI) (c:Bool),aC X.K g α H a x->aC X.K g α H b y->RelV x u->RelV y v->eqD k h a b=some c->EqAt A.in1 s u v c:=
   fun a b x y u v c h1 h2 h3 h4 h5=>(vJ I r k A.in1 a b x y u v c (by grind) h1 h2 h3 h4 h5).1
  have whole:=fun x ra rb=>nq I r (k+1) a b x c ra rb e
  unfold eqD at e
  cases ea:vw a h with
  | no=>simp_all
  | fl=>
   have fa:=nO ra ea
   cases eb:vw b h with
   | no=>simp_all
   | fl=>simp only[ea,eb] at e;cases e;exact Fw ra rb ru rv fa (nO rb eb)
   | tp db=>
    simp only[ea,eb] at e;cases e
    obtain⟨q,vb,rfl,hq,rt⟩:=lF rb eb
    cases rv
    obtain⟨its,r1,ht,_⟩:=I.tuple hq
    exact(tG ht hu0 ra ru fa).2
   | ls db=>
    simp only[ea,eb] at e;cases e
    obtain⟨q,vb,rfl,hq,rt⟩:=lC r rb eb
    cases rv
    obtain⟨its,r1,ht,_⟩:=I.list hq
    exact(sP ht.isList hu0 ra ru fa).2
  | tp da=>
   obtain⟨p,va,rfl,hp,rs⟩:=lF ra ea
   cases ru
   obtain⟨its,r1,ht,_⟩:=I.tuple hp
   cases eb:vw b h with
   | no=>simp_all
   | fl=>simp only[ea,eb] at e;cases e;exact(tG ht hu0 rb rv (nO rb eb)).1
   | tp db=>
    simp only[ea,eb] at e
    obtain⟨q,vb,rfl,hq,rt⟩:=lF rb eb
    cases rv
    obtain⟨jts,r2,ht2,_⟩:=I.tuple hq
    obtain⟨h1,h2⟩:=uk r ih rs rt r1 r2 e
    have rc:RcAt A s (.ref p) (.ref q) c:=by rw[h2];exact RcAt.tuples ht ht2 hu0 h1
    refine⟨?_,rc,by rw[h2];exact TJ.tuples ht ht2 hu0 h1⟩
    by_cases hpq:p=q
    ·subst hpq
     rw[whole _ ra rb]
     exact .same _
    ·exact .of_refs hpq rc
   | ls db=>
    simp only[ea,eb] at e;cases e
    obtain⟨q,vb,rfl,hq,rt⟩:=lC r rb eb
    cases rv
    obtain⟨jts,r2,ht2,_⟩:=I.list hq
    exact⟨.tuple_list ht ht2.isList hu0,.tuple_list ht ht2.isList hu0,.tuple_list ht ht2.isList hu0⟩
  | ls da=>
   obtain⟨p,va,rfl,hp,rs⟩:=lC r ra ea
   cases ru
   obtain⟨its,r1,ht',_⟩:=I.list hp
   have ht:=ht'.isList
   cases eb:vw b h with
   | no=>simp_all
   | fl=>simp only[ea,eb] at e;cases e;exact(sP ht hu0 rb rv (nO rb eb)).1
   | tp db=>
    simp only[ea,eb] at e;cases e
    obtain⟨q,vb,rfl,hq,rt⟩:=lF rb eb
    cases rv
    obtain⟨jts,r2,ht2,_⟩:=I.tuple hq
    exact⟨.list_tuple ht ht2 hu0,.list_tuple ht ht2 hu0,.list_tuple ht ht2 hu0⟩
   | ls db=>
    simp only[ea,eb] at e
    obtain⟨q,vb,rfl,hq,rt⟩:=lC r rb eb
    cases rv
    obtain⟨jts,r2,ht2',_⟩:=I.list hq
    have ht2:=ht2'.isList
    have l1:its.toArray.size=da.length:=by rw[OW,<- r1.length,rs.length]
    have l2:jts.toArray.size=db.length:=by rw[OW,<- r2.length,rt.length]
    have fin:RcAt A s (.ref p) (.ref q) c/\TJ A s (.ref p) (.ref q) (!c):=by
     by_cases hl:da.length=db.length
     ·rw[if_pos hl] at e
      obtain⟨h1,h2⟩:=uk r ih rs rt r1 r2 e
      have hsz:its.toArray.size=jts.toArray.size:=by omega
      have h2':c=(NQ its.toArray.size).all (fun(j:Nat)=>(eqD k h (da.getD j .non) (db.getD j .non)).getD false):=by
       simp_all
      exact⟨by rw[h2'];exact RcAt.lists ht ht2 hsz hu0 h1,by rw[h2'];exact TJ.lists ht ht2 hsz hu0 h1⟩
     ·rw[if_neg hl] at e
      have e2:c=false:=(Qb e).symm
      have hsz:(its.toArray.size != jts.toArray.size)=true:=by
       simp_all
      rw[e2]
      exact⟨RcAt.lists_lengths ht ht2 hsz hu0,TJ.lists_lengths ht ht2 hsz hu0⟩
    refine⟨?_,fin⟩
    by_cases hpq:p=q
    ·subst hpq
     rw[whole _ ra rb]
     exact .same _
    ·exact .of_refs hpq fin.1
noncomputable abbrev eqN:Nat:=12
noncomputable def dEq:D->D->Hh->R D:=fun a b h=>match eqD eqN h a b with
 | some c=>.ok (.bl c) h
 | none=>.bad
noncomputable def dNe:D->D->Hh->R D:=fun a b h=>match eqD eqN h a b with
 | some c=>.ok (.bl (!c)) h
 | none=>.bad
noncomputable def EW (K:ND) (g:GG) (neg:Bool):R2:=fun x y H Q=>∃α h a b c,aK K g α H h/\aC K g α H a x/\aC K g α H b y/\eqD eqN h a b=some c/\Q (.bl (if neg then !c else c)) H
def iL (hu:X.A.units+64<cLine):OpR X (compareOp .Eq) (EW X.K g false):=by
 intro pins s σ H x y v u Q I rx ry ⟨α,h,a,b,c,r,ra,rb,e,q⟩
 exact(vJ I r eqN X.A a b x y v u c (by grind) ra rb rx ry e).2.1 _ _ _ _ ⟨.bl c,H,I,rfl,q⟩
def kn (hu:X.A.units+64<cLine):OpR X (compareOp .NotEq) (EW X.K g true):=by
 intro pins s σ H x y v u Q I rx ry ⟨α,h,a,b,c,r,ra,rb,e,q⟩
 exact(vJ I r eqN X.A a b x y v u c (by grind) ra rb rx ry e).2.2 _ _ _ _ ⟨.bl (!c),H,I,rfl,q⟩
def ng {K:ND}:dz K g ε dEq (EW K g false):=by
 intro α H h a b x y Q r ra rb w
 unfold dEq at w
 cases e:eqD eqN h a b with
 | none=>simp only[e] at w;exact w.elim
 | some c=>simp only[e] at w;exact⟨α,h,a,b,c,r,ra,rb,e,aB.now w r (.bl _)⟩
def pV {K:ND}:dz K g ε dNe (EW K g true):=by
 intro α H h a b x y Q r ra rb w
 unfold dNe at w
 cases e:eqD eqN h a b with
 | none=>simp only[e] at w;exact w.elim
 | some c=>simp only[e] at w;exact⟨α,h,a,b,c,r,ra,rb,e,aB.now w r (.bl _)⟩
end
noncomputable def cV (f:D->Option RT):List D->Option (List RT)
 | []=>some []
 | d::ds=>match f d,cV f ds with
  | some p,some ps=>some (p::ps)
  | _,_=>none
noncomputable def toPy:Nat->Hh->D->Option RT
 | 0,_,_=>none
 | k+1,h,d=>match d with
  | .non=>some .none
  | .bl b=>some (.bool b)
  | .int i=>if sml i=true then some (.int i) else none
  | .str x=>if x.cps.toList.all (fun c=>decide (c<16 ^ 8))=true then some (.str x) else none
  | .tup ds=>(cV (toPy k h) ds).map .tuple
  | .frl ds=>(cV (toPy k h) ds).map .list
  | .ref n=>match aq h n with
   | some ds=>(cV (toPy k h) ds).map .list
   | none=>none
  | _=>none
structure K5 (k) (d:RT):Prop where
 sh:d.showable=true
 nd:d.hasDict=false
 dp:d.depth<=k
 lv:d.leavesShort 1921=true
structure Kc (k) (ds):Prop where
 sh:RT.showableAll ds=true
 nd:RT.hasDictAll ds=false
 dp:S7 ds<=k
 lv:RT.leavesShortAll 1921 ds=true
section
variable {K:ND}{g:GG}{α:List Addr}{H:Hp}{h:Hh}
theorem jq {f:D->Option RT}{k:Nat} (hf:∀d x p,aC K g α H d x->f d=some p->RdD K H x p/\K5 k p):∀{ds:List D}{vs:List V}{ps:List RT},ao K g α H ds vs->cV f ds=some ps →
  Kc k ps/\vs.length=ps.length/\∀(i:Nat) x d,vs[i]?=some x->ps[i]?=some d->RdD K H x d
 | _,_,_,.nil,e=>by
  cases e
  exact⟨⟨by rfl,by rfl,by simp[S7],by rfl⟩,rfl,fun i x d h=>by simp at h⟩
 | _,_,_,.cons r t,e=>by
  unfold cV at e
  split at e
  ·rename_i p ps h1 h2
   cases e
   obtain⟨a1,a2⟩:=hf _ _ _ r h1
   obtain⟨b1,b2,b3⟩:=jq hf t h2
   refine⟨⟨by rw[RT.showableAll,a2.sh,b1.sh];rfl,by rw[RT.hasDictAll,a2.nd,b1.nd];rfl,by rw[S7];exact Nat.max_le.mpr ⟨a2.dp,b1.dp⟩,by rw[RT.leavesShortAll,a2.lv,b1.lv];rfl⟩,by simp[b2],fun i x d hx hd=>?_⟩
   grind
  grind
theorem mn (r:aK K g α H h):∀(k:Nat) (d:D) (x:V) (p:RT),aC K g α H d x->toPy k h d=some p->RdD K H x p/\K5 k p
 | 0,_,_,_,_,e=>by cases e
 | k+1,d,x,p,rd,e=>by
  unfold toPy at e
  cases rd with
  | non=>cases e;exact⟨.non,by rfl,by rfl,by simp[Q1],by rfl⟩
  | bl b=>cases e;exact⟨.bl b,by rfl,by rfl,by simp[Q1],by rfl⟩
  | int i=>
   simp only at e
   split at e
   ·rename_i hs
    cases e
    have hl:i.natAbs.log2<1920:=Q0 (qX hs) (by decide)
    exact⟨.int i,by simp[R3,hl],by rfl,by simp[Q1],by simp only[Rg,decide_eq_true_eq];exact int_text_len_1921 hl⟩
   grind
  | str z=>
   simp only at e
   split at e
   ·rename_i hs
    cases e
    exact⟨.str z,by rfl,by rfl,by simp[Q1],by assumption⟩
   grind
  | tup hp rs=>
   simp only at e
   cases e1:cV (toPy k h) _ with
   | none=>rw[e1] at e;cases e
   | some ps=>
    rw[e1] at e
    cases e
    obtain⟨b1,b2,b3⟩:=jq (fun d x p=>mn r k d x p) rs e1
    exact⟨.tup (SqT.of hp) b2 b3,by rw[R3];exact b1.sh,by rw[Tj];exact b1.nd,by rw[Q1];exact SR b1.dp,by rw[Rg];exact b1.lv⟩
  | @ref n p hp=>
   simp only at e
   cases el:aq h n with
   | none=>simp_all
   | some ds=>
    rw[el] at e
    simp only at e
    obtain⟨vs,hv,rs⟩:=r.lst el hp
    cases e1:cV (toPy k h) ds with
    | none=>simp_all
    | some ps=>
     rw[e1] at e
     cases e
     obtain⟨b1,b2,b3⟩:=jq (fun d x p=>mn r k d x p) rs e1
     exact⟨.lst (SqL.of hv) b2 b3,by rw[R3];exact b1.sh,by rw[Tj];exact b1.nd,by rw[Q1];exact SR b1.dp,by rw[Rg];exact b1.lv⟩
  | frl hp rs=>
   simp only at e
   cases e1:cV (toPy k h) _ with
   | none=>rw[e1] at e;cases e
   | some ps=>
    rw[e1] at e
    cases e
    obtain⟨b1,b2,b3⟩:=jq (fun d x p=>mn r k d x p) rs e1
    exact⟨.lst hp.sq b2 b3,by rw[R3];exact b1.sh,by rw[Tj];exact b1.nd,by rw[Q1];exact SR b1.dp,by rw[Rg];exact b1.lv⟩
  | fn _=>cases e
  | edic _=>cases e
  | exc _ _ _ _ _=>cases e
  | clo=>cases e
  | scr _ _=>cases e
end
noncomputable def kS (d:D) (h:Hh):R D:=match toPy 12 h d with
 | some p=>if p.bulk<=8000 then .ok (.str p.shown) h else .bad
 | none=>.bad
noncomputable def dU:List D->Hh->R D:=fun ds h=>match ds with
 | [.int i]=>if sml i=true then .ok (.str (toString i)) h else .bad
 | [.tup ds]=>kS (.tup ds) h
 | [.ref n]=>kS (.ref n) h
 | [.frl ds]=>kS (.frl ds) h
 | _=>.bad
section
variable {X:Cx}{K:ND}{g:GG}{ε:EE}
abbrev wa (K:ND):List V->Hp->VK->Prop:=fun vs H Q=>(∃p d,vs=[.ref p]/\RdD K H (.ref p) d/\d.showable=true/\d.hasDict=false/\d.depth<=60/\d.shown.length<=sizeLine/\Q (.str d.shown) H)\/∃i,vs=[.int i]/\i.natAbs.log2<1920/\Q (.str (toString i)) H
def ic (hg:X.A.guards=some []) (hu:X.A.units+64<cLine):aV X (.builtin "repr") (wa X.K):=aV.or (Af hg hu) wd
def ie:kF K g ε dU (wa K):=by
 intro α H h a x Q r ra w
 cases ra with
 | nil=>exact w.elim
 | cons rd rr=>
  cases rr with
  | cons _ _=>cases rd<;>exact w.elim
  | nil=>
   have gen:∀{d:D} {v:V},aC K g α H d v->(∃p,v=.ref p)->WQ K g ε α H (kS d h) (aB K g α H Q)->wa K [v] H Q:=by
    intro d v rd ⟨p,hp⟩ w
    subst hp
    unfold kS at w
    cases e:toPy 12 h d with
    | none=>simp only[e] at w;exact w.elim
    | some pd=>
     simp only[e] at w
     obtain⟨hb,w⟩:=WQ.cO w
     obtain⟨q1,q2⟩:=mn r 12 d _ pd rd e
     have:=RT.shown_le_bulk 1921 (by decide) pd q2.lv
     exact .inl ⟨p,pd,rfl,q1,q2.sh,q2.nd,N4 q2.dp (by decide),by rw[OY];omega,aB.now w r (.str _)⟩
   cases rd with
   | int i=>
    obtain⟨hs,w⟩:=WQ.cO w
    exact .inr ⟨i,rfl,Q0 (qX hs) (by decide),aB.now w r (.str _)⟩
   | tup hp rs=>exact gen (.tup hp rs) ⟨_,rfl⟩ w
   | ref hp=>exact gen (.ref hp) ⟨_,rfl⟩ w
   | frl hp rs=>exact gen (.frl hp rs) ⟨_,rfl⟩ w
   | _=>exact w.elim
noncomputable def cU:List D->Hh->R D:=fun ds h=>match ds with
 | [.tup ds]=>.ok (.int ds.length) h
 | [.frl ds]=>.ok (.int ds.length) h
 | [.scr ds]=>.ok (.int ds.length) h
 | [.str x]=>if x.length<=1000000 then .ok (.int x.length) h else .bad
 | [.ref n]=>match h[n]? with
  | some (.lst ds)=>.ok (.int ds.length) h
  | some (.set k)=>.ok (.int k.length) h
  | _=>.bad
 | _=>.bad
abbrev FF (K:ND):List V->Hp->VK->Prop:=fun xs H Q=>(∃p ys,xs=[.ref p]/\(SqL K H p ys\/SqT K H p ys)/\Q (.int ys.length) H)\/(∃p S n,xs=[.ref p]/\H p=some (.set S n)/\Q (.int n) H)\/∃z,xs=[.str z]/\z.length<=sizeLine/\Q (.int z.length) H
def cT:aV X (.builtin "len") (FF X.K):=aV.or qA (aV.or oj qO)
def kE {f:List D->Hh->R D} (hf:∀d e r h,f (d::e::r) h=.bad) (hf0:∀h,f [] h=.bad) (rs:ao K g α H ds vs) (w:WQ K g ε α H (f ds h) (aB K g α H Q)):∃d v,ds=[d]/\vs=[v]/\aC K g α H d v:=by
 cases rs with
 | nil=>rw[hf0] at w;exact w.elim
 | cons r t=>
  cases t with
  | nil=>simp_all
  | cons _ _=>rw[hf] at w;exact w.elim
def cR:kF K g ε cU (FF K):=by
 intro α H h a x Q r ra w
 obtain⟨d,v,rfl,rfl,rd⟩:=kE (fun d _ _ _=>by cases d<;>rfl) (fun _=>rfl) ra w
 unfold cU at w
 cases rd with
 | tup hp rs=>exact .inl ⟨_,_,rfl,.inr (SqT.of hp),aB.now w r (by rw[<- rs.length];exact .int _)⟩
 | frl hp rs=>exact .inl ⟨_,_,rfl,.inl hp.sq,aB.now w r (by rw[<- rs.length];exact .int _)⟩
 | scr hp rs=>exact .inl ⟨_,_,rfl,.inl hp.sq,aB.now w r (by rw[<- rs.length];exact .int _)⟩
 | str z=>
  obtain⟨hl,w⟩:=WQ.cO w
  exact .inr (.inr ⟨z,rfl,eZ hl,aB.now w r (.int _)⟩)
 | @ref n p hp=>
  simp only at w
  cases e:h[n]? with
  | none=>rw[e] at w;exact w.elim
  | some o=>
   rw[e] at w
   have q:=r.here n p o hp e
   cases o with
   | lst ds=>obtain⟨vs,hv,rs⟩:=q;exact .inl ⟨p,vs,rfl,.inl (SqL.of hv),aB.now w r (by rw[<- rs.length];exact .int _)⟩
   | set k=>exact .inr (.inl ⟨p,_,_,rfl,q,aB.now w r (.int _)⟩)
   | dic k=>exact w.elim
   | dit k=>exact w.elim
 | _=>exact w.elim
noncomputable def qU:List D->Hh->R D:=fun ds h=>match ds with
 | [.tup ds]=>.ok (.tup ds) h
 | [.frl ds]=>.ok (.tup ds) h
 | [.ref n]=>match aq h n with
  | some ds=>.ok (.tup ds) h
  | none=>.bad
 | _=>.bad
def Cf:kF K g ε qU (fun xs H Q=>∃p ys,xs=[.ref p]/\((SqL K H p ys/\∀l,H l=none->Q (.ref l) (upd H l (.tup ys)))\/(SqT K H p ys/\Q (.ref p) H))):=by
 intro α H h a x Q r ra w
 obtain⟨d,v,rfl,rfl,rd⟩:=kE (fun d _ _ _=>by cases d<;>rfl) (fun _=>rfl) ra w
 unfold qU at w
 cases rd with
 | tup hp rs=>exact⟨_,_,rfl,.inr ⟨SqT.of hp,aB.now w r (.tup hp rs)⟩⟩
 | frl hp rs=>exact⟨_,_,rfl,.inl ⟨hp.sq,fun l hl=>aB.tup w r rs hl⟩⟩
 | @ref n p hp=>
  simp only at w
  cases e:aq h n with
  | none=>rw[e] at w;exact w.elim
  | some ds=>
   rw[e] at w
   obtain⟨vs,hv,rs⟩:=r.lst e hp
   exact⟨p,vs,rfl,.inl ⟨SqL.of hv,fun l hl=>aB.tup w r rs hl⟩⟩
 | _=>exact w.elim
noncomputable def intsOf:List D->Option (List Int)
 | []=>some []
 | .int i::ds=>(intsOf ds).map (i::·)
 | _::_=>none
theorem dR:∀{ds:List D}{ns:List Int},intsOf ds=some ns->ds=ns.map D.int
 | [],ns,e=>by cases e;rfl
 | .int i::ds,ns,e=>by
  unfold intsOf at e
  cases e1:intsOf ds with
  | none=>simp_all
  | some ms=>rw[e1] at e;cases e;rw[dR e1];rfl
 | .non::_,_,e=>by cases e
 | .bl _::_,_,e=>by cases e
 | .str _::_,_,e=>by cases e
 | .tup _::_,_,e=>by cases e
 | .frl _::_,_,e=>by cases e
 | .ref _::_,_,e=>by cases e
 | .fn _::_,_,e=>by cases e
 | .edic::_,_,e=>by cases e
 | .exc _ _::_,_,e=>by cases e
 | .clo _ _::_,_,e=>by cases e
 | .scr _::_,_,e=>by cases e
theorem gf:∀(ns:List Int),intsOf (ns.map D.int)=some ns
 | []=>rfl
 | n::r=>by rw[NR,intsOf,gf r];rfl
noncomputable def Az:List D->Hh->R D:=fun ds h=>match ds with
 | [.int i,.int j]=>.ok (.int (if j > i then j else i)) h
 | _=>.bad
def As {t:Int->Int->Int} (r:aK K g α H h) (rs:ao K g α H ds vs) (w:WQ K g ε α H (match ds with | [.int i,.int j]=>.ok (.int (t i j)) h | _=>.bad) (aB K g α H Q)):∃i j,vs=[.int i,.int j]/\Q (.int (t i j)) H:=by
 split at w
 ·cases rs with
  | cons r1 t1=>
   cases r1
   cases t1 with
   | cons r2 t2=>
    cases r2
    cases t2
    exact⟨_,_,rfl,aB.now w r (.int _)⟩
 ·exact w.elim
def Fb:kF K g ε Az (fun xs H Q=>∃i j,xs=[.int i,.int j]/\Q (.int (if j > i then j else i)) H):=fun α H h a x Q r ra w=>As r ra w
noncomputable def Dd:List D->Hh->R D:=fun ds h=>match ds with
 | [.int i]=>.ok (.int i) h
 | [.bl b]=>.ok (.int (if b then 1 else 0)) h
 | _=>.bad
def BH:kF K g ε Dd (fun xs H Q=>(∃i,xs=[.int i]/\Q (.int i) H)\/∃k,xs=[.bl k]/\Q (.int (if k then 1 else 0)) H):=by
 intro α H h a x Q r ra w
 obtain⟨d,v,rfl,rfl,rd⟩:=kE (fun d _ _ _=>by cases d<;>rfl) (fun _=>rfl) ra w
 cases rd with
 | int i=>exact .inl ⟨i,rfl,aB.now w r (.int _)⟩
 | bl b=>exact .inr ⟨b,rfl,aB.now w r (.int _)⟩
 | _=>exact w.elim
noncomputable def tyD (d:D) (h:Hh):Option String:=match d with
 | .non=>some "NoneType"
 | .bl _=>some "bool"
 | .int _=>some "int"
 | .str _=>some "str"
 | .tup _=>some "tuple"
 | .frl _=>some "list"
 | .edic=>some "dict"
 | .ref n=>match h[n]? with
  | some (.lst _)=>some "list"
  | some (.dic _)=>some "dict"
  | some (.dit _)=>some "dict"
  | _=>none
 | _=>none
noncomputable def x8 (t n:String):Option Bool:=
 if n="int" then (if t="int" then some true else if t="bool" then some true else if t="NoneType" \/ t="str" \/ t="tuple" \/ t="list" \/ t="dict" then some false else none)
 else if n="bool" \/ n="tuple" \/ n="list" \/ n="str" then (if t=n then some true else if t="int" \/ t="bool" \/ t="NoneType" \/ t="str" \/ t="tuple" \/ t="list" \/ t="dict" then some false else none)
 else none
noncomputable def kK (n:String):D->Hh->R D:=fun d h=>match tyD d h with
 | some t=>match x8 t n with
  | some b=>.ok (.bl b) h
  | none=>.bad
 | none=>.bad
def Le (r:aK K g α H h) (rd:aC K g α H d v) (e:tyD d h=some t):iW K H v (.type t):=by
 unfold tyD at e
 cases rd with
 | non=>cases e;exact .non
 | bl b=>cases e;exact .bl b
 | int i=>cases e;exact .int i
 | str i=>cases e;exact .str i
 | tup hp rs=>cases e;exact .tup hp
 | frl hp rs=>cases e;obtain⟨o,hp⟩:=hp;exact .frz hp
 | edic hp=>cases e;exact .eD hp
 | @ref n p hp=>
  simp only at e
  cases eo:h[n]? with
  | none=>simp_all
  | some o=>
   rw[eo] at e
   have q:=r.here n p o hp eo
   cases o with
   | lst ds=>cases e;obtain⟨vs,hv,_⟩:=q;exact .lst hv
   | set k=>cases e
   | dic k=>cases e;obtain⟨vs,hv,_⟩:=q;exact .dK hv
   | dit k=>cases e;obtain⟨vs,hv,_⟩:=q;exact .dT hv
 | _=>cases e
def D7 (K):Pd K (.type "int") (.type "int")=some true/\Pd K (.type "bool") (.type "int")=some true/\Pd K (.type "NoneType") (.type "int")=some false/\Pd K (.type "str") (.type "int")=some false
  /\ Pd K (.type "tuple") (.type "int")=some false/\Pd K (.type "list") (.type "int")=some false/\Pd K (.type "dict") (.type "int")=some false:=⟨rfl,rfl,rfl,rfl,rfl,rfl,rfl⟩
def Ib (e:x8 t n=some b):Pd K (.type t) (.type n)=some b:=by
 unfold x8 at e
 obtain⟨a1,a2,a3,a4,a5,a6,a7⟩:=D7 K
 split at e
 ·grind
 ·split at e
  ·rename_i hn
   split at e
   ·rename_i h;subst h;rcases hn with rfl | rfl | rfl | rfl<;>assumption
   ·rename_i hne
    split at e
    ·rename_i h;rcases hn with rfl | rfl | rfl | rfl<;>rcases h with rfl | rfl | rfl | rfl | rfl | rfl | rfl<;>first | assumption | simp_all
    grind
  grind
def r_ {e:Expr}{me:ME}{n:String}{x:Str}{p1 p2 pos:Pos} (he:PE X e (tM X.K g ε me)) (hg:Gl X "isinstance") (hm:X.mg "isinstance" = none) (hg2:Gl X x) (hm2:X.mg x=none) (hb:bootBuiltins x=some (.type n)) (hn:x≠"__name__" := by decide) (hd:(x == ("__debug__" : Str))=false:=by decide)
  (hs1:starEach [e,.Name x p2] X.env=(false,eval e X.env)::starEach [.Name x p2] X.env:=by rfl) (hs2:starEach [.Name x p2] X.env=[(false,eval (.Name x p2) X.env)]:=by rfl) (hpl:(backTo pos (starEach [.Name x p2] X.env)).any (·.1)=false:=by rfl) :
  PE X (.Call (.Name "isinstance" p1) [e,.Name x p2] [] pos) (tM X.K g ε (cUn (kK n) me)):=
 PE.imp (gG t9 hg hm Qu (c4 he (c4 (xu (v:=.ty n) hg2 hm2 hb rfl hn hd) gF hs2) hs1) (by decide) (by decide) hs1 hpl) fun σ H Q ⟨α,env,h,s,w⟩=>tM.use s w.bind fun d1 h1 v1 H1 α1 e1 s1 r1 w1=>by
  unfold kK at w1
  cases et:tyD d1 h1 with
  | none=>simp only[et] at w1;exact w1.elim
  | some t=>
   simp only[et] at w1
   cases es:x8 t n with
   | none=>simp only[es] at w1;exact w1.elim
   | some b=>
    simp only[es] at w1
    exact⟨v1,.type t,n,b,rfl,Le s1.heap r1 et,Ib es,aB.now (aB.ext e1 w1) s1.heap (.bl b)⟩
end
section
variable {X:Cx}{K:ND}{g:GG}{ε:EE}
noncomputable def kD:D->Hh->R Bool:=fun d h=>match d with
 | .non=>.ok false h
 | .bl b=>.ok b h
 | .int i=>.ok (i != 0) h
 | .tup ds=>.ok (!ds.isEmpty) h
 | .frl ds=>.ok (!ds.isEmpty) h
 | .ref n=>match aq h n with
  | some ds=>.ok (!ds.isEmpty) h
  | none=>.bad
 | _=>.bad
theorem ao.isEmpty (r:ao K g α H ds vs):ds.isEmpty=vs.isEmpty:=by cases r<;>rfl
def jZ:JE K g ε kD (fun x H Q=>∃k,Fj K x H k/\Q k H):=by
 intro α H h a x Q r ra w
 unfold kD at w
 have now:∀{b:Bool},lD K g α H Q b h->Q b H:=fun p=>p H α Ext.refl r
 cases ra with
 | non=>exact⟨false,rfl,now w⟩
 | bl b=>exact⟨b,rfl,now w⟩
 | int i=>exact⟨_,rfl,now w⟩
 | tup hp rs=>exact⟨_,.inr (.inl ⟨_,SqT.of hp,rfl⟩),now (by rw[<- rs.isEmpty];exact w)⟩
 | frl hp rs=>exact⟨_,.inl ⟨_,hp.sq,rfl⟩,now (by rw[<- rs.isEmpty];exact w)⟩
 | @ref n p hp=>
  simp only at w
  cases e:aq h n with
  | none=>rw[e] at w;exact w.elim
  | some ds=>
   rw[e] at w
   obtain⟨vs,hv,rs⟩:=r.lst e hp
   exact⟨_,.inl ⟨vs,SqL.of hv,rfl⟩,now (by rw[<- rs.isEmpty];exact w)⟩
 | _=>exact w.elim
def AS (r:aC K g α H d v) (f:eg d=true):iG v=true:=by
 cases r<;>first | rfl | cases f
def JN (r:aC K g α H d v) (q:aC K g α H e u) (f:eg d=true) (f':eg e=true):eqF d e=eqV v u:=by
 cases r<;>first | (cases f;done) | (cases q<;>rfl)
theorem F3 {α:List Addr}{H:Hp}:∀{ds:List D}{vs:List V},ao K g α H ds vs->ds.all eg=true->vs.all iG=true
 | _,_,.nil,_=>rfl
 | _,_,.cons r t,f=>by
  rw[Rc,N5] at f ⊢
  exact⟨AS r f.1,F3 t f.2⟩
theorem F_ (q:aC K g α H e u) (f':eg e=true):∀{ds:List D}{vs:List V},ao K g α H ds vs->ds.all eg=true->(ds.any fun d=>eqF d e)=vs.any fun y=>eqV y u
 | _,_,.nil,_=>rfl
 | _,_,.cons r t,f=>by
  rw[Rc,N5] at f
  rw[Pf,Pf,JN r q f.1 f',F_ q f' t f.2]
noncomputable def dIn (neg:Bool):D->D->Hh->R D:=fun a b h=>match e9 b h with
 | some ds=>if eg a=true/\ds.all eg=true then .ok (.bl (if neg then !(ds.any fun d=>eqF d a) else ds.any fun d=>eqF d a)) h else .bad
 | none=>.bad
def FK:dz K g ε (dIn neg) (rIn K neg):=by
 intro α H h a b x y Q r ra rb w
 unfold dIn at w
 cases e:e9 b h with
 | none=>rw[e] at w;exact w.elim
 | some ds=>
  rw[e] at w
  obtain⟨p,vs,rfl,hq,rs⟩:=mw r rb e
  obtain⟨⟨f1,f2⟩,w⟩:=WQ.cO w
  refine⟨p,vs,rfl,hq,AS ra f1,F3 rs f2,?_⟩
  have e2:(ds.any fun d=>eqF d a)=inV x vs:=F_ ra f1 rs f2
  rw[<- e2]
  exact aB.now w r (.bl _)
noncomputable def zw:List D->Option (List D)
 | [.int j]=>if j.natAbs<=1000000 then some (bD 0 j.toNat) else none
 | [.int i,.int j]=>if (i.natAbs<=1000000/\j.natAbs<=1000000)/\(j - i).toNat<=1000000 then some (bD i (j - i).toNat) else none
 | _=>none
noncomputable def iX (nl:NL):List D->Hh->R D:=fun ds h=>match zw ds with
 | some xs=>nl xs h
 | none=>.bad
def AF (lo) (n):ao K g α H (bD lo n) ((t8 lo 1 n).map V.int):=by
 have e:bD lo n=(t8 lo 1 n).map D.int:=by
  unfold bD t8
  simp
 rw[e]
 exact ao.ints _
def Dy (r:ao K g α H ds vs) (e:zw ds=some xs) :
  (∃j,vs=[.int j]/\xI 0 j 1 j.toNat/\xs=bD 0 j.toNat)\/∃i j,vs=[.int i,.int j]/\xI i j 1 (j - i).toNat/\xs=bD i (j - i).toNat:=by
 unfold zw at e
 split at e
 ·rename_i j
  split at e
  ·rename_i hj
   cases e
   cases r with
   | cons r1 t=>
    cases r1
    cases t
    refine .inl ⟨j,rfl,?_,rfl⟩
    have:=AQ (a:=0) (b:=j) (by omega) (by omega) (by omega) (by omega) (by omega)
    simp_all
  grind
 ·rename_i i j
  split at e
  ·rename_i hj
   cases e
   cases r with
   | cons r1 t=>
    cases r1
    cases t with
    | cons r2 t=>
     cases r2
     cases t
     exact .inr ⟨i,j,rfl,AQ (by omega) (by omega) (by omega) (by omega) (by omega),rfl⟩
  grind
 grind
def GP:aV X (.type "range") (fun vs H Q=>(∃j,vs=[.int j]/\∀p,H p=none->Q (.ref p) (upd H p (rJ p 0 j 1)))\/∃i j,vs=[.int i,.int j]/\∀p,H p=none->Q (.ref p) (upd H p (rJ p i j 1))):=aV.or Aj zR
section
variable {e:Expr}{es:List Expr}{mr:MA}{p1 p2 q1 q2:Pos}
def AJ {nl:NL} [iz nl] (hc:X.calm=true) (hg:Gl X "list") (hm:X.mg "list" = none) (hg2:Gl X "range") (hm2:X.mg "range" = none) (ha:PA X (e::es) (tMA X.K g ε mr))
  (he:starEach (e::es) X.env=(false,eval e X.env)::starEach es X.env:=by rfl) (hpl:(backTo q2 (starEach es X.env)).any (·.1)=false:=by rfl)
  (he1:starEach [.Call (.Name "range" p2) (e::es) [] q2] X.env=[(false,eval (.Call (.Name "range" p2) (e::es) [] q2) X.env)]:=by rfl) (hpl1:(backTo q1 (starEach [] X.env)).any (·.1)=false:=by rfl) :
  PE X (.Call (.Name "list" p1) [.Call (.Name "range" p2) (e::es) [] q2] [] q1) (tM X.K g ε (ah (iX nl) mr)):=
 PE.imp (PE.frz (ik (pq hc) hg hm PU (c4 (ik GP hg2 hm2 PyProof.Rows.boot_range ha (by decide) (by decide) he hpl) gF he1) (by decide) (by decide) he1 hpl1)) fun σ H Q ⟨α,env,h,s,w⟩=>tMA.use s w.bind fun d1 h1 v1 H1 α1 e1 s1 r1 w1=>by
  unfold iX at w1
  cases er:zw d1 with
  | none=>rw[er] at w1;exact w1.elim
  | some xs=>
   rw[er] at w1
   rcases Dy r1 er with⟨j,rfl,ok,rfl⟩ | ⟨i,j,rfl,ok,rfl⟩
   ·refine .inl ⟨j,rfl,fun p hp=>⟨p,0,j,1,j.toNat,rfl,aL,ok,fun l hl=>?_⟩⟩
    have x:=Ext.fresh (K:=X.K) (α:=α1) (o:=rJ p 0 j 1) hp
    exact NL.post ((w1.post e1).post x) (s1.heap.grow hp) (AF 0 j.toNat) hl
   ·refine .inr ⟨i,j,rfl,fun p hp=>⟨p,i,j,1,(j - i).toNat,rfl,aL,ok,fun l hl=>?_⟩⟩
    have x:=Ext.fresh (K:=X.K) (α:=α1) (o:=rJ p i j 1) hp
    exact NL.post ((w1.post e1).post x) (s1.heap.grow hp) (AF i (j - i).toNat) hl
end
noncomputable def isL (d:D) (h:Hh):Bool:=match d with
 | .ref n=>(aq h n).isSome
 | .frl _=>true
 | _=>false
noncomputable def dZ (f:D->List D->Hh->R D) (o:ME) (a:MA):ME:=fun env h=>(o env h).bind fun x h1=>if isL x h1=true then (a env h1).bind fun xs h2=>f x xs h2 else .bad
def D0 (r:aK K g α H h) (rd:aC K g α H d x) (e:isL d h=true):tyV K "list" x H:=by
 unfold isL at e
 cases rd with
 | @ref n p hp=>
  obtain⟨ds,e⟩:=Qd.mp e
  obtain⟨vs,hv,_⟩:=r.lst e hp
  exact .inl ⟨rfl,vs,SqL.of hv⟩
 | frl hq rs=>exact .inl ⟨rfl,_,hq.sq⟩
 | _=>cases e
def kx {o e:Expr}{es:List Expr}{mo:ME}{mr:MA}{name:Str}{apos cpos:Pos}{id:String}{r:V->List V->Hp->VK->Prop}{f:D->List D->Hh->R D} (slot:Slot "list" name id) (hty:typeOf (.builtin id)=pure (.type "method_descriptor")) (hm:MtM X id r) (im:CV X.K g ε f r) (ho:PE X o (tM X.K g ε mo)) (ha:PA X (e::es) (tMA X.K g ε mr))
  (hbase:attributeBase o name X.env (eval o X.env)=eval o X.env:=by rfl)
  (hfew:((backTo cpos (starEach (e::es) X.env)).all (fun x=>!x.1)&&(backToKw cpos (keywordEach [] X.env)).all (fun x=>x.1.isSome)
   && decide ((e::es).length+([]:List T7).length+(if ([]:List T7).isEmpty then 0 else 1)<30))=true:=by rfl)
  (hline:(apos.endLine == cpos.line)=true:=by rfl) (hs:starEach (e::es) X.env=(false,eval e X.env)::starEach es X.env:=by rfl) (hplain:(backTo cpos (starEach es X.env)).any (·.1)=false:=by rfl) :
  PE X (.Call (.Attribute o name apos) (e::es) [] cpos) (tM X.K g ε (dZ f mo mr)):=
 PE.imp (KI PySem.F.plainAttrs_list slot hty hm ho ha hbase hfew hline hs hplain) fun σ H Q ⟨α,env,h,s,w⟩=>tM.use s w.bind fun d1 h1 v1 H1 α1 e1 s1 r1 w1=>by
  obtain⟨hl,w1⟩:=WQ.cO w1
  refine⟨D0 s1.heap r1 hl,tMA.use s1 (w1.ext e1).bind fun d2 h2 v2 H2 α2 e2 s2 r2 w2=>?_⟩
  exact im α2 H2 h2 d1 d2 v1 v2 Q s2.heap (r1.ext e2) r2 ((w2.ext e2).mono fun _ _ _ p=>aB.ext (e1.trans e2) p)
noncomputable def di:D->List D->Hh->R D:=fun o ds h=>match o,ds with
 | .ref n,[d]=>match aq h n with
  | some xs=>if xs.length<1000000 then .ok .non (h.set n (.lst (xs++[d]))) else .bad
  | none=>.bad
 | _,_=>.bad
def kG:CV K g ε di xV:=by
 intro α H h o a y x Q r ro ra w
 unfold di at w
 cases ro with
 | @ref n p hp=>
  cases ra with
  | nil=>exact w.elim
  | @cons d v _ _ rd rr=>
   cases rr with
   | cons _ _=>exact w.elim
   | nil=>
    simp only at w
    cases e:aq h n with
    | none=>rw[e] at w;exact w.elim
    | some xs=>
     rw[e] at w
     obtain⟨hl,w⟩:=WQ.cO w
     obtain⟨vs,hv,rs⟩:=r.lst e hp
     refine⟨p,vs,_,rfl,rfl,hv,by rw[<- rs.length,OY];omega,?_⟩
     have x:=Ext.write (o:=.lst (vs++[v])) r hp
     exact(show aB K g α H Q _ _ from w) _ _ α x (r.write hp ⟨_,aL,(rs.append (.cons rd .nil)).ext x⟩) .non
 | _=>exact w.elim
def sO:V->List V->Hp->VK->Prop:=fun x vs H Q=>∃l b xs zs,x=.ref l/\vs=[.ref b]/\H l=some (.lst xs)/\Rd H b (.lst zs)/\xs.length+zs.length<=sizeLine/\Q .non (upd H l (.lst (xs++zs)))
def vF:MtM X "list.extend" sO:=by
 intro pins s σ H x vs v us Q I rx rv h
 obtain⟨l,b,xs,zs,rfl,rfl,hH,hB,hz,q⟩:=h
 cases rx
 obtain⟨u,rfl,ru⟩:=rv.one
 cases ru
 obtain⟨z,its,n,r,hl,e⟩:=I.Kj hH
 obtain⟨its2,n2,z2,r2,hl2,e2⟩:=Eb I hB
 have hsz:its.toArray.size+its2.toArray.size<=sizeLine:=by simp_all
 have hlong:¬ (!its.toArray.isEmpty&&Qh (its.toArray.size+its2.toArray.size))=true:=by
  rw[ur hsz,Bool.and_false]
  simp
 refine Sq F.slot_list_extend ⟨_,e,rfl⟩ F.entry_list_extend (F.args_list_extend_2 _ _)
  (AutoSeq1.list_extend_list_list_0 l its.toArray n b its2.toArray n2 hlong (by omega) (by omega)) ⟨e,e2,?_⟩
 refine⟨.non,_,I.JG hH e (by simp) (r.append r2) ?_,rfl,q⟩
 simp_all
noncomputable def fc:D->List D->Hh->R D:=fun o ds h=>match o,ds with
 | .ref n,[d]=>match aq h n,gM d h with
  | some xs,some ys=>if xs.length+ys.length<=1000000 then .ok .non (h.set n (.lst (xs++ys))) else .bad
  | _,_=>.bad
 | _,_=>.bad
def zY:CV K g ε fc sO:=by
 intro α H h o a y x Q r ro ra w
 unfold fc at w
 cases ro with
 | @ref n p hp=>
  cases ra with
  | nil=>exact w.elim
  | cons rd rr=>
   cases rr with
   | cons _ _=>exact w.elim
   | nil=>
    simp only at w
    cases e:aq h n with
    | none=>rw[e] at w;exact w.elim
    | some xs=>
     rw[e] at w
     cases e2:gM _ h with
     | none=>rw[e2] at w;exact w.elim
     | some ys=>
      rw[e2] at w
      obtain⟨hl,w⟩:=WQ.cO w
      obtain⟨vs,hv,rs⟩:=r.lst e hp
      obtain⟨q,us,rfl,hu,rt⟩:=qE r rd e2
      refine⟨p,q,vs,us,rfl,rfl,hv,hu,eZ (by rw[<- rs.length,<- rt.length];exact hl),?_⟩
      have x:=Ext.write (o:=.lst (vs++us)) r hp
      exact(show aB K g α H Q _ _ from w) _ _ α x (r.write hp ⟨_,aL,(rs.append rt).ext x⟩) .non
 | _=>exact w.elim
theorem kY (ns:List Int):∀k,k<=ns.length->preSum (fun i=>ns.getD i 0) k=(ns.take k).sum
 | 0,_=>by rfl
 | k+1,h=>by
  rw[preSum,kY ns k (by omega),List.take_succ,List.sum_append]
  grind
def zI (hc:X.calm=true):aV X (.builtin "sum") (fun vs H Q=>∃(p:Addr) (ns:List Int),vs=[.ref p]/\(SqL X.K H p (ns.map V.int)\/SqT X.K H p (ns.map V.int))/\Q (.int ns.sum) H):=by
 intro pins s σ H xs us Q I r h
 obtain⟨p,ns,rfl,hq,q⟩:=h
 obtain⟨u,rfl,rx⟩:=vals1 r
 cases rx
 have hh:X.A.in1.handled=none:=I.ok.hd hc
 have fin:∀{its:List NI} {o:Obj},Vals (ns.map V.int) its->∀s',Moved [s.heap.objs.size] (fun a b=>b=a) { s with heap:=s.heap.push o } s'->∀t',EP X pins σ Q (.int (preSum (fun i=>ns.getD i 0) its.toArray.size) t') s':=fun{its o} rv s' mv t'=>by
  have hl:its.toArray.size=ns.length:=by rw[OW,<- rv.length,NY]
  have keep:=fun b u e=>mv.heap b u (by simp;exact NU (NJ e)) (NF _ e)
  have I':Inv X pins σ H s':=by
   obtain⟨hp,gs,dr,tk,os⟩:=s'
   have e1:=mv.gens
   have e2:=mv.drawn
   have e3:=mv.os
   subst e1 e2 e3
   exact I.kept keep
  refine⟨.int ns.sum,H,I',⟨t',?_⟩,q⟩
  rw[hl,kY ns _ (NK _),List.take_length]
 have val:∀{its:List NI},Vals (ns.map V.int) its->∀i v,its.toArray[i]?=some v->∃t:Tok,v=Qw (ns.getD i 0) t:=fun{its} rv i v e=>by
  obtain⟨x,hx,rxv⟩:=rv.get' (show its[i]?=some v by simp_all)
  rw[Oh] at hx
  cases en:ns[i]? with
  | none=>simp_all
  | some z=>
   rw[en] at hx
   cases hx
   obtain⟨t,e⟩:=rxv
   simp_all
 rcases hq with hq | hq
 ·obtain⟨its,rv,pl,hz⟩:=I.list hq
  have plt:p<s.heap.objs.size:=by obtain⟨o,e,_⟩:=pl.isList;exact NJ e
  have hne:=NU plt
  refine call_sum_walkAnyS (Su pl.isList ?_)
  refine⟨s.heap.objs.size,_,_,_,its.toArray.size,_,_,fun i=>ns.getD i 0,rfl,(Ur.list hh s.heap.objs.size p hne its.toArray).toS,⟨⟨_,NN _ rfl,rfl,rfl⟩,?_⟩,fun b hb=>?_,val rv,fun s' t' mv=>fin rv s' mv t'⟩
  ·exact pl.isList.at fun o e=>NF _ e
  ·simp at hb
   rcases hb with rfl | rfl
   ·simp
   ·exact Q0 plt (NJ (NN _ rfl))
 ·obtain⟨its,rv,pl,hz⟩:=I.tuple hq
  have pt:s.heap.IsTuple p its.toArray:=pl
  have hne:=NU pl.lt
  refine call_sum_walkAnyS (Rf pt ?_)
  refine⟨s.heap.objs.size,_,_,_,its.toArray.size,_,_,fun i=>ns.getD i 0,rfl,(Ur.tuple hh s.heap.objs.size p hne its.toArray).toS,⟨⟨_,NN _ rfl,rfl,rfl⟩,?_⟩,fun b hb=>?_,val rv,fun s' t' mv=>fin rv s' mv t'⟩
  ·exact pt.at fun o e=>NF _ e
  ·simp at hb
   rcases hb with rfl | rfl
   ·simp
   ·exact Q0 pl.lt (NJ (NN _ rfl))
noncomputable def yR:List D->Hh->R D:=fun ds h=>match ds with
 | [d]=>match e9 d h with
  | some xs=>match intsOf xs with
   | some ns=>.ok (.int ns.sum) h
   | none=>.bad
  | none=>.bad
 | _=>.bad
def HG:kF K g ε yR (fun vs H Q=>∃(p:Addr) (ns:List Int),vs=[.ref p]/\(SqL K H p (ns.map V.int)\/SqT K H p (ns.map V.int))/\Q (.int ns.sum) H):=by
 intro α H h a x Q r ra w
 obtain⟨d,v,rfl,rfl,rd⟩:=kE (fun _ _ _ _=>rfl) (fun _=>rfl) ra w
 unfold yR at w
 simp only at w
 cases e:e9 d h with
 | none=>rw[e] at w;exact w.elim
 | some ds=>
  rw[e] at w
  simp only at w
  cases e2:intsOf ds with
  | none=>rw[e2] at w;exact w.elim
  | some ns=>
   rw[e2] at w
   obtain⟨p,vs,rfl,hq,rs⟩:=mw r rd e
   have e3:=dR e2
   subst e3
   have e4:=rs.yI
   subst e4
   exact⟨p,ns,rfl,hq,aB.now w r (.int _)⟩
noncomputable def yu:D->D->Hh->R D
 | .int i,.int j,h=>.ok (.int (i+j)) h
 | _,_,_=>.bad
def Hz:dz K g ε yu (ipI fun i j=>i+j):=by
 intro α H h a b x y Q r ra rb w
 cases ra with
 | int i=>
  cases rb with
  | int j=>exact⟨i,j,rfl,rfl,aB.now w r (.int _)⟩
  | _=>exact w.elim
 | _=>exact w.elim
end
section
variable {P:NT}{w:Oe}{K:ND}{mg:Str->Option NI}{base:Heap}{g:GG}
def aG (K:ND) (mg:Str->Option NI) (x:Str) (st:Stmt):Prop:=∃f fd,mg x=some (.ref f)/\Fun K x x st f fd
def bK (K:ND) (x:Str) (st:Stmt):Prop:=∃f fd,Oz K mainGlobals x=some (some (.ref f))/\Fun K x x st f fd
def IJ {st:Stmt}{kV doc pm cdv ct:NI} (a:Oz K mainGlobals x=some (some (.ref f)))
  (l:K.lookup f=some ⟨oc,od,.func (OP x x (cf st) (aP st) (ag st) .none kV doc pm an cdv ct),osl⟩) (c:QP K cdv x=true) (k:Om K (.ref f)=true):bK K x st:=⟨f,_,a,vm l c k⟩
def aG.of {h:Heap}{x:Str}{st:Stmt} (X:K.In h) (G:h.Ns mainGlobals mg) (d:bK K x st):aG K mg x st:=
 let ⟨f,fd,a,F⟩:=d;⟨f,fd,R_ X G a,F⟩
def Has (P:NT) (w:Oe) (K:ND) (mg:Str->Option NI) (base:Heap) (g:GG) (x:Str) (k:Nat) (ps:List Str) (m:MF):Prop:=
 ∃f fd,b9 P w K mg base CX0 k f fd ps (spM K g ps.length m)/\Om K (.ref f)=true/\Binds K fd ps []/\mg x=some (.ref f)/\∃oc od osl,K.lookup f=some ⟨oc,od,.func fd,osl⟩
noncomputable def gOf (mg:Str->Option NI):GG:=fun x=>match mg x with
 | some (.ref f)=>some f
 | _=>none
def c6 {st:Stmt} (F:Fun K x x st f fd):∃oc od osl,K.lookup f=some ⟨oc,od,.func fd,osl⟩:=by
 obtain⟨oc,od,kV,doc,pm,an,cdv,ct,osl,rfl,lk,hcd⟩:=F.ex
 simp_all
def IE {st:Stmt} (F:Fun K x x st f fd) (hm:mg x=some (.ref f)) (h:Has P w K mg base g x k ps m):b9 P w K mg base CX0 k f fd ps (spM K g ps.length m):=by
 obtain⟨f2,fd2,G,_,_,hm2,oc,od,osl,l2⟩:=h
 obtain⟨oc',od',osl',l1⟩:=c6 F
 simp_all
end
section
variable {X:Cx}{K:ND}{g:GG}{ε:EE}
noncomputable def CY:D->D->Hh->R D:=fun a b h=>match a with
 | .ref n=>dIx (.ref n) b h
 | _=>.bad
noncomputable def qP (o i v:ME):MS:=fun env h=>(o env h).bind fun x h1=>(i env h1).bind fun y h2=>(CY x y h2).bind fun z h3=>(v env h3).bind fun u h4=>(yu z u h4).bind fun t h5=>(f_ x y t h5).bind fun _ h6=>.ok (.nx env) h6
def DG:Jy X (fun x y H Q=>HX X.K x y H Q):=by
 intro pins s σ H o i ov iv Q I ro ri h
 obtain⟨p,xs,k,z,rfl,rfl,hq,he,q⟩:=h
 cases ro
 obtain⟨t,rfl⟩:=ri
 obtain⟨its,r,pl,hz⟩:=I.list hq
 obtain⟨j,h1,h2,h3,h4,h5⟩:=l_ he
 obtain⟨w,ew,rw'⟩:=r.get h2
 have hl:=r.length
 have hn:=gS
 have fin:EP X pins σ Q w s:=⟨z,H,I,rw',q⟩
 by_cases h0:0<=k
 ·have hj:k.toNat=j:=by
   rw[Tr h0 h5] at h1
   simp_all
  exact wpAny_getItem_list pl.isList h0 (by omega) (by simp_all) fin
 ·have hj:(k+(its.toArray.size:Int)).toNat=j:=by
   rw[S0 (by omega) h4] at h1
   simp_all
  exact wpAny_getItem_list_neg pl.isList (by omega) (by simp_all) (by omega) (by simp_all) fin
def Fu {o i e:Expr}{mo mi me:ME}{tpos pos:Pos} (ho:PE X o (tM X.K g ε mo)) (hi:PE X i (tM X.K g ε mi)) (he:PE X e (tM X.K g ε me))
  (ha:∀ov iv new,augStore i ov iv new=(do holding [new,ov,iv] (setItem ov iv new);release [new,ov,iv] [];pure .next):=by intros;rfl):PS X (.AugAssign (.Subscript o i tpos) .Add e pos) (tMS X.K g ε (qP mo mi me)):=
 PS.imp (E6 ho hi DG he HC set_list ha) fun E σ H ⟨α,env,h,s,w⟩=>tM.use s w.bind fun d1 h1 v1 H1 α1 e1 s1 r1 w1=>tM.use s1 (w1.ext e1).bind fun d2 h2 v2 H2 α2 e2 s2 r2 w2=>by
  have w3:=(w2.ext e2).bind
  have r1':=r1.ext e2
  unfold CY at w3
  cases r1' with
  | @ref n p hp=>
   simp only[dIx] at w3
   cases eq:e9 (.ref n) h2 with
   | none=>simp only[eq] at w3;exact w3.elim
   | some ds=>
    simp only[eq] at w3
    cases r2 with
    | int k=>
     cases ea:atI ds k with
     | none=>simp only[ea] at w3;exact w3.elim
     | some z=>
      simp only[ea] at w3
      have w4:=w3
      have eq':=eq
      obtain⟨vs',hv',rs'⟩:=s2.heap.lst eq' hp
      obtain⟨v',ev',rv'⟩:=xv rs' ea
      refine⟨p,vs',k,v',rfl,rfl,SqL.of hv',ev',tM.use s2 w4.bind fun d3 h3 v3 H3 α3 e3 s3 r3 w5=>?_⟩
      refine Hz α3 H3 h3 z d3 v' v3 _ s3.heap (rv'.ext e3) r3 ((w5.ext e3).bind.mono fun t h4 _ w6 v4 H4 α4 e4 hr4 r4=>?_)
      refine mX α4 H4 h4 (.ref n) (.int k) t (.ref p) (.int k) v4 _ hr4 (.ref ((e3.trans e4).get hp)) (.int k) r4 (((w6.ext e4)).bind.mono fun _ h5 _ w7 H5 α5 e5 hr5=>?_)
      exact(show cH X.K g α H E (.nx env) h5 from w7) H5 α5 (e1.trans (e2.trans (e3.trans (e4.trans e5)))) hr5 _ (s3.vs.ext (e4.trans e5))
    | _=>exact w3.elim
  | _=>exact w3.elim
end
mutual
noncomputable def gT (k:Nat):D->Bool
 | .ref n=>decide (n<k)
 | .tup ds=>a8 k ds
 | .frl ds=>a8 k ds
 | .scr ds=>a8 k ds
 | .clo _ ds=>a8 k ds
 | _=>true
noncomputable def a8 (k:Nat):List D->Bool
 | []=>true
 | d::ds=>gT k d&&a8 k ds
end
noncomputable def je (k:Nat):O->Bool
 | .lst ds=>a8 k ds
 | .set _=>true
 | .dic kvs=>a8 k (kvs.map (·.2))
 | .dit kvs=>a8 k (kvs.map (·.2))
noncomputable def iS (f:D->Option D):List D->Option (List D)
 | []=>some []
 | d::ds=>match f d,iS f ds with
  | some e,some es=>some (e::es)
  | _,_=>none
noncomputable def eD (k:Nat) (h:Hh):Nat->D->Option D
 | 0,_=>none
 | f+1,d=>match d with
  | .ref n=>if n<k then some (.ref n) else match aq h n with
   | some ds=>(iS (eD k h f) ds).map .frl
   | none=>none
  | .tup ds=>(iS (eD k h f) ds).map .tup
  | .frl ds=>(iS (eD k h f) ds).map .frl
  | .scr _=>none
  | .clo f ds=>if a8 0 ds=true then some (.clo f ds) else none
  | d=>some d
noncomputable def bg (h:Hh):D->Hh->R D:=fun d h'=>if (h'.take h.length).all (je h.length)=true then match eD h.length h' 8 d with
 | some e=>.ok e (h'.take h.length)
 | none=>.bad else .bad
noncomputable def gi (h:Hh):D->Hh->R D:=fun d h'=>if (h'.take h.length).all (je h.length)=true then match d with
 | .ref n=>if h.length<=n then match aq h' n with
  | some ds=>match iS (eD h.length (h'.set n (.set [])) 8) ds with
   | some es=>.ok (.ref h.length) (h'.take h.length++[.lst es])
   | none=>.bad
  | none=>.bad else .bad
 | _=>.bad else .bad
open Classical in
noncomputable def fA (S:Addr->Prop) (o:Addr->Obj) (H:Hp):Hp:=fun p=>if S p then (H p).map (.frz (o p)) else H p
def Gz (q:a_ P w H h p u) (mu:Mut (some u)):∃o,h.get? p=some o:=by
 cases u with
 | lst xs=>obtain⟨_,_,_,_,e'⟩:=q;simp_all
 | dK kvs=>obtain⟨_,_,_,_,o,_,_,e',_⟩:=q;simp_all
 | dT kvs=>obtain⟨_,_,_,_,o,_,_,e',_⟩:=q;simp_all
 | set S n=>obtain⟨o,_,_,_,e',_⟩:=q;simp_all
 | ins C dx fs=>obtain⟨_,_,_,e',_⟩:=q;simp_all
 | ext φ=>obtain⟨_,⟨_,e'⟩,_⟩:=q;simp_all
 | _=>exact absurd mu (fun z=>z)
def Cc (h:CE outer P w H s Q' u s')
  (hQ:∀v H',Q' v H'->∃S:Addr->Prop,(∀p,S p->∃u,H' p=some u/\Mut (some u))/\∀o:Addr->Obj,Q v (fA S o H')):CE outer P w H s Q u s':=by
 obtain⟨v,H',os,bare,un,hok,r,q⟩:=h
 obtain⟨S,hS,q⟩:=hQ v H' q
 have hS1:∀p,S p->∀u,H' p=some u->Mut (some u):=fun p z u e=>by grind
 have off:∀(o:Addr->Obj) b u,H' b=some u->¬ Mut (some u)->fA S o H' b=some u:=fun o b u e m=>by
  unfold fA
  grind
 have offn:∀(o:Addr->Obj) b,H' b=none->fA S o H' b=none:=fun o b e=>by
  unfold fA
  simp_all
 let o:Addr->Obj:=fun b=>(s'.heap.get? b).getD { cls:=.none,data:=.fields #[] }
 refine⟨v,fA S o H',os,bare,⟨un.keep,un.slot,fun b ob e n hx=>offn o b (un.free b ob e n hx),un.there,fun b xs e=>off o b _ (un.i5 b xs e) fun z=>z,fun b ob xs e=>off o b _ (un.jA b ob xs e) fun z=>z,fun b ps e=>?_⟩,?_,r,q o⟩
 ·obtain⟨more,e1⟩:=un.lM b ps e
  exact⟨more,off o b _ e1 fun z=>z⟩
 ·intro b u e
  have st:∀u,a_ P w H' s'.heap b u->a_ P w (fA S o H') s'.heap b u:=fun u x=>x.iy (fun _ _ _ z=>z) (fun c z=>off o c _ z fun z=>z) fun c xs z=>off o c _ z fun z=>z
  unfold fA at e
  split at e
  ·rename_i hb
   obtain⟨u',e',m⟩:=hS b hb
   rw[e'] at e
   cases e
   have x:=hok b u' e'
   obtain⟨ob,eo⟩:=Gz x m
   refine⟨?_,st _ x⟩
   grind
  ·exact st u (hok b u e)
section
variable {K:ND}{g:GG}{α α':List Addr}{H H' H2:Hp}{k:Nat}
structure nB (K:ND) (α α':List Addr) (H' H2:Hp) (k:Nat):Prop where
 pre:∀n,n<k->α[n]?=α'[n]?
 tup:∀p xs,H' p=some (.tup xs)->H2 p=some (.tup xs)
 frz:∀p o u , H' p=some (.frz o u)->H2 p=some (.frz o u)
mutual
theorem mj (L:nB K α α' H' H2 k):∀{d:D}{v:V},gT k d=true->aC K g α' H' d v->aC K g α H2 d v
 | _,_,_,.non=>.non
 | _,_,_,.bl b=>.bl b
 | _,_,_,.int i=>.int i
 | _,_,_,.str x=>.str x
 | _,_,hl,.ref h=>.ref (by rw[L.pre _ (by simpa [gT] using hl)];exact h)
 | _,_,hl,.tup h r=>.tup (L.tup _ _ h) (dP L (by assumption) r)
 | _,_,hl,.frl h r=>.frl (let ⟨o,h⟩:=h;⟨o,L.frz _ _ _ h⟩) (dP L (by assumption) r)
 | _,_,hl,.scr h r=>.scr (h.elim (fun⟨o,h⟩=>.inl ⟨o,L.frz _ _ _ h⟩) .inr) (dP L (by assumption) r)
 | _,_,_,.fn h=>.fn h
 | _,_,_,.edic h=>.edic (L.frz _ _ _ h)
 | _,_,_,.exc hg h hc hd hf=>.exc hg (L.frz _ _ _ h) hc hd (hf.elim .inl fun⟨dx,od,a,b⟩=>.inr ⟨dx,od,a,L.frz _ _ _ b⟩)
 | _,_,hl,.clo h l hc hd hv cs r=>.clo (L.frz _ _ _ h) l (L.frz _ _ _ hc) hd hv (L2.Paired.oY cs fun _ _ ⟨c,o,u,l,a,b⟩=>⟨c,o,u,l,L.frz _ _ _ a,b⟩) (dP L (by assumption) r)
theorem dP (L:nB K α α' H' H2 k):∀{ds:List D}{vs:List V},a8 k ds=true->ao K g α' H' ds vs->ao K g α H2 ds vs
 | _,_,_,.nil=>.nil
 | _,_,hl,.cons r t=>by
  simp only[a8,N5] at hl
  exact .cons (mj L hl.1 r) (dP L hl.2 t)
end
theorem gL {f:D->Option D} (hf:∀d e v,f d=some e->aC K g α' H' d v->aC K g α H2 e v):∀{ds es:List D}{vs:List V},iS f ds=some es->ao K g α' H' ds vs->ao K g α H2 es vs
 | [],es,_,e,.nil=>by cases e;exact .nil
 | d::ds,es,_,e,.cons r t=>by
  unfold iS at e
  split at e
  ·rename_i e1 es1 h1 h2
   cases e
   exact .cons (hf _ _ _ h1 r) (gL hf h2 t)
  grind
theorem jw {h' hx:Hh} (L:nB K α α' H' H2 k) (r:aK K g α' H' h') (hx':∀n ds,aq hx n=some ds->aq h' n=some ds) (fz:∀n p ds vs,k<=n->aq hx n=some ds->α'[n]?=some p->H' p=some (.lst vs)->Fr1 H2 p vs) :
  ∀(f:Nat) (d e:D) (v:V),eD k hx f d=some e->aC K g α' H' d v->aC K g α H2 e v
 | 0,_,_,_,e,_=>by cases e
 | f+1,d,e,v,he,rd=>by
  unfold eD at he
  cases rd with
  | non=>cases he;exact .non
  | bl b=>cases he;exact .bl b
  | int i=>cases he;exact .int i
  | str x=>cases he;exact .str x
  | fn h=>cases he;exact .fn h
  | edic h=>cases he;exact .edic (L.frz _ _ _ h)
  | exc hg h hc hd hf=>cases he;exact .exc hg (L.frz _ _ _ h) hc hd (hf.elim .inl fun⟨dx,od,a,b⟩=>.inr ⟨dx,od,a,L.frz _ _ _ b⟩)
  | scr _ _=>cases he
  | clo h l hc hd hv cs rs=>
   simp only at he
   split at he
   ·rename_i lo
    cases he
    exact .clo (L.frz _ _ _ h) l (L.frz _ _ _ hc) hd hv (L2.Paired.oY cs fun _ _ ⟨c,o,u,l,a,b⟩=>⟨c,o,u,l,L.frz _ _ _ a,b⟩) (dP ⟨fun n hn=>absurd hn (Rh _),L.tup,L.frz⟩ lo rs)
   grind
  | tup h rs=>
   simp only at he
   cases e1:iS (eD k hx f) _ with
   | none=>rw[e1] at he;cases he
   | some es=>rw[e1] at he;cases he;exact .tup (L.tup _ _ h) (gL (fun d e v=>jw L r hx' fz f d e v) e1 rs)
  | frl h rs=>
   simp only at he
   cases e1:iS (eD k hx f) _ with
   | none=>rw[e1] at he;cases he
   | some es=>rw[e1] at he;cases he;exact .frl (let ⟨o,h⟩:=h;⟨o,L.frz _ _ _ h⟩) (gL (fun d e v=>jw L r hx' fz f d e v) e1 rs)
  | @ref n p hp=>
   simp only at he
   split at he
   ·rename_i hn
    cases he
    exact .ref (by rw[L.pre n hn];exact hp)
   ·rename_i hn
    cases el:aq hx n with
    | none=>simp_all
    | some ds=>
     rw[el] at he
     simp only at he
     cases e1:iS (eD k hx f) ds with
     | none=>simp_all
     | some es=>
      rw[e1] at he;cases he
      obtain⟨vs,hv,rs⟩:=r.lst (hx' n ds el) hp
      exact .frl (fz n p ds vs (by omega) el hp hv) (gL (fun d e v=>jw L r hx' fz f d e v) e1 rs)
end
def mG {β:Type}{l:List β}{x:β} (e:(l.take k)[n]?=some x):n<k/\l[n]?=some x:=by
 grind
def fZ {α α':List Addr} (h:α <+: α') (hn:n<α.length):α[n]?=α'[n]?:=by
 obtain⟨t,rfl⟩:=h
 grind
def Dz {β:Type}{l:List β}{f:β->Bool} (h:l.all f=true){n:Nat}{x:β} (e:l[n]?=some x):f x=true:=NZ.mp h x (Oc e)
def m_ {K:ND}{g:GG}{h h':Hh} (r0:α.length=h.length) (e:Ext K α H α' H') (r:aK K g α' H' h') (hl:(h'.take h.length).all (je h.length)=true)
  (L:nB K α2 α' H' H2 h.length) (kp:∀n p u,n<h.length->α'[n]?=some p->H' p=some u->H2 p=some u):∀n p o , n<h.length->α'[n]?=some p->(h'.take h.length)[n]?=some o->OAt K g α2 H2 p o:=by
 intro n p o hn hp ho
 have lo:=Dz hl ho
 obtain⟨_,ho'⟩:=mG ho
 have q:=r.here n p o hp ho'
 cases o with
 | lst ds=>obtain⟨vs,a,b⟩:=q;exact⟨vs,kp n p _ hn hp a,dP L lo b⟩
 | set m=>exact kp n p _ hn hp q
 | dic kvs=>
  obtain⟨kws,a,b⟩:=q
  refine⟨kws,kp n p _ hn hp a,?_⟩
  replace lo:a8 h.length (kvs.map (·.2))=true:=lo
  clear a ho ho'
  induction b with
  | nil=>exact .nil
  | cons x t ih=>
   simp only[NR,a8,N5] at lo
   exact .cons ⟨x.1,mj L lo.1 x.2⟩ (ih lo.2)
 | dit kvs=>
  obtain⟨kws,a,b⟩:=q
  refine⟨kws,kp n p _ hn hp a,?_⟩
  replace lo:a8 h.length (kvs.map (·.2))=true:=lo
  clear a ho ho'
  induction b with
  | nil=>exact .nil
  | cons x t ih=>
   simp only[NR,a8,N5] at lo
   exact .cons ⟨x.1,mj L lo.1 x.2⟩ (ih lo.2)
section
variable {P:NT}{w:Oe}{K:ND}{mg:Str->Option NI}{base:Heap}{g:GG}{k np:Nat}{f:Addr}{fd:P_}{ps:List Str}{m:MF}
def fX {CX:CXT}{ε:XK->EE} (F:b9 P w K mg base CX k f fd ps (spG K g ε np m)):b9 P w K mg base CX k f fd ps (spG K g ε np fun ds h=>(m ds h).bind (bg h)):=by
 refine⟨fun vs H Q E h=>?_,fun A outer s H args us vs Q E hr e0 hb hv hsp=>?_⟩
 ·obtain⟨hl,α,ds,h,rs,hh,w⟩:=h
  exact F.len vs H (fun _ _=>True) E ⟨hl,α,ds,h,rs,hh,w.bind.mono fun _ _ _ _ _ _ _ _ _ _=>trivial⟩
 ·obtain⟨hl,α,ds,h,rs,hh,w⟩:=hsp
  refine PF (F.run A outer s H args us vs (fun v H'=>∃α' d h',Ext K α H α' H'/\aK K g α' H' h'/\aC K g α' H' d v/\WQ K g (ε E) α H (bg h d h') (aB K g α H Q)) E hr e0 hb hv ⟨hl,α,ds,h,rs,hh,w.bind.mono fun d h' _ w1 v H' α' e r rd=>⟨α',d,h',e,r,rd,w1⟩⟩) fun res s' q=>?_
  cases res with
  | error e=>exact q
  | ok fl=>
   cases fl with
   | ret u=>
    refine Cc (show CE outer P _ H s _ u s' from q) fun v H' ⟨α',d,h',e,r,rd,w⟩=>?_
    refine⟨fun p=>∃n ds,h.length<=n/\α'[n]?=some p/\aq h' n=some ds,fun p ⟨n,ds,_,hp,hn⟩=>?_,fun o=>?_⟩
    ·obtain⟨vs,hv,_⟩:=r.lst hn hp
     exact⟨_,hv,trivial⟩
    ·unfold bg at w
     obtain⟨hl,w⟩:=WQ.cO w
     cases ez:eD h.length h' 8 d with
     | none=>rw[ez] at w;exact w.elim
     | some e'=>
      rw[ez] at w
      generalize hS:(fun p=>∃n ds,h.length<=n/\α'[n]?=some p/\aq h' n=some ds)=S
      have inS:∀p,S p↔∃n ds,h.length<=n/\α'[n]?=some p/\aq h' n=some ds:=fun p=>by grind
      have k0:=hh.len
      have notS:∀p u,H' p=some u->(∀vs,u≠.lst vs)->¬ S p:=fun p u e1 e2 z=>by
       obtain⟨n,ds,_,hp,hn⟩:=(inS p).mp z
       obtain⟨vs,hv,_⟩:=r.lst hn hp
       grind
      have off:∀p,¬ S p->fA S o H' p=H' p:=fun p z=>by unfold fA;simp_all
      have offT:∀(p:Addr) (ps:Array NI),H' p=some (.tbl ps)->fA S o H' p=some (.tbl ps):=fun p ps z=>by grind
      have L:nB K α α' H' (fA S o H') h.length:=⟨fun n hn=>fZ e.pre (by omega),fun p xs z=>by grind,fun p o u z=>by grind⟩
      have kp:∀n p u,n<h.length->α'[n]?=some p->H' p=some u->fA S o H' p=some u:=fun n p u hn hp e1=>by
       rw[off p fun z=>?_];exact e1
       obtain⟨m,ds,hm,hp',_⟩:=(inS p).mp z
       have:=r.inj n m p hp hp'
       omega
      have rd2:=jw L r (fun _ _ z=>z) (fun n p ds vs hn hl hp hv=>⟨o p,by unfold fA;grind⟩) 8 d e' v ez rd
      refine(show aB K g α H Q e' (h'.take h.length) from w) v _ α ⟨⟨Qm _,fun p xs z=>L.tup p xs (e.tup p xs z),fun p o u z=>L.frz p o u (e.frz p o u z),fun p ps z=>(e.tbl p ps z).imp fun _ q=>offT p _ q⟩,fun p u z n nt=>?_,fun _ z n=>absurd z n⟩ ⟨?_,fun n m p h1 h2=>hh.inj n m p h1 h2,fun n p ob h1 h2=>?_,r.tab.mono offT L.frz⟩ rd2
      ·rw[off p fun z'=>?_];exact e.kept p u z n nt
       obtain⟨m,ds,_,hp',_⟩:=(inS p).mp z'
       have:=e.new p (Oc hp') n
       simp_all
      ·rw[OT,<- r.len]
       have:=e.pre.length_le
       omega
      ·have hn:=(mG h2).1
       rw[fZ e.pre (by omega)] at h1
       exact m_ k0 e r hl L kp n p ob hn h1 h2
   | next=>exact q
   | brk=>exact q
   | cont=>exact q
def nQ {CX:CXT}{ε:XK->EE} (F:b9 P w K mg base CX k f fd ps (spG K g ε np m)):b9 P w K mg base CX k f fd ps (spG K g ε np fun ds h=>(m ds h).bind (gi h)):=by
 refine⟨fun vs H Q E h=>?_,fun A outer s H args us vs Q E hr e0 hb hv hsp=>?_⟩
 ·obtain⟨hl,α,ds,h,rs,hh,w⟩:=h
  exact F.len vs H (fun _ _=>True) E ⟨hl,α,ds,h,rs,hh,w.bind.mono fun _ _ _ _ _ _ _ _ _ _=>trivial⟩
 ·obtain⟨hl,α,ds,h,rs,hh,w⟩:=hsp
  refine PF (F.run A outer s H args us vs (fun v H'=>∃α' d h',Ext K α H α' H'/\aK K g α' H' h'/\aC K g α' H' d v/\WQ K g (ε E) α H (gi h d h') (aB K g α H Q)) E hr e0 hb hv ⟨hl,α,ds,h,rs,hh,w.bind.mono fun d h' _ w1 v H' α' e r rd=>⟨α',d,h',e,r,rd,w1⟩⟩) fun res s' q=>?_
  cases res with
  | error e=>exact q
  | ok fl=>
   cases fl with
   | ret u=>
    refine Cc (show CE outer P _ H s _ u s' from q) fun v H' ⟨α',d,h',e,r,rd,w⟩=>?_
    obtain⟨hl,w⟩:=WQ.cO w
    cases rd with
    | @ref n0 p0 hp0=>
     obtain⟨hk,w⟩:=WQ.cO w
     cases el:aq h' n0 with
     | none=>rw[el] at w;exact w.elim
     | some ds=>
      rw[el] at w
      simp only at w
      cases ez:iS (eD h.length (h'.set n0 (.set [])) 8) ds with
      | none=>rw[ez] at w;exact w.elim
      | some es=>
       rw[ez] at w
       have hx:∀n ds,aq (h'.set n0 (.set [])) n=some ds->n≠n0/\aq h' n=some ds:=fun n ds z=>by
        by_cases hn:n=n0
        ·subst hn
         unfold aq at z
         grind
        ·unfold aq at z ⊢
         grind
       refine⟨fun p=>∃n ds,h.length<=n/\n≠n0/\α'[n]?=some p/\aq h' n=some ds,fun p ⟨n,ds,_,_,hp,hn⟩=>?_,fun o=>?_⟩
       ·obtain⟨vs,hv,_⟩:=r.lst hn hp
        exact⟨_,hv,trivial⟩
       ·generalize hS:(fun p=>∃n ds,h.length<=n/\n≠n0/\α'[n]?=some p/\aq h' n=some ds)=S
        have inS:∀p,S p↔∃n ds,h.length<=n/\n≠n0/\α'[n]?=some p/\aq h' n=some ds:=fun p=>by grind
        have k0:=hh.len
        have notS:∀p u,H' p=some u->(∀vs,u≠.lst vs)->¬ S p:=fun p u e1 e2 z=>by
         obtain⟨n,ds,_,_,hp,hn⟩:=(inS p).mp z
         obtain⟨vs,hv,_⟩:=r.lst hn hp
         grind
        have off:∀p,¬ S p->fA S o H' p=H' p:=fun p z=>by unfold fA;simp_all
        have offT:∀(p:Addr) (ps:Array NI),H' p=some (.tbl ps)->fA S o H' p=some (.tbl ps):=fun p ps z=>by grind
        have L:nB K (α++[p0]) α' H' (fA S o H') h.length:=⟨fun n hn=>by rw[Oo (by omega)];exact fZ e.pre (by omega),fun p xs z=>by grind,fun p o u z=>by grind⟩
        have kp:∀n p u,n<h.length->α'[n]?=some p->H' p=some u->fA S o H' p=some u:=fun n p u hn hp e1=>by
         rw[off p fun z=>?_];exact e1
         obtain⟨m,ds,hm,_,hp',_⟩:=(inS p).mp z
         have:=r.inj n m p hp hp'
         omega
        obtain⟨vs0,hv0,rs0⟩:=r.lst el hp0
        have p0S:¬ S p0:=fun z=>by
         obtain⟨m,ds,hm,hne,hp',_⟩:=(inS p0).mp z
         exact hne (r.inj m n0 p0 hp' hp0)
        have p0α:p0∉α:=fun z=>by
         obtain⟨m,hm,em⟩:=Pq z
         have h1:α'[m]?=some p0:=by rw[<- fZ e.pre hm,N0 hm,em]
         have:=r.inj m n0 p0 h1 hp0
         omega
        have rs2:ao K g (α++[p0]) (fA S o H') es vs0:=gL (fun d e v=>jw L r (fun n ds z=>(hx n ds z).2) (fun n p ds vs hn hl hp hv=>⟨o p,by unfold fA;grind⟩) 8 d e v) ez rs0
        have tl:(h'.take h.length).length=h.length:=by
         rw[OT,<- r.len]
         grind
        refine(show aB K g α H Q (.ref h.length) (h'.take h.length++[.lst es]) from w) _ _ (α++[p0]) ⟨⟨List.prefix_append _ _,fun p xs z=>L.tup p xs (e.tup p xs z),fun p o u z=>L.frz p o u (e.frz p o u z),fun p ps z=>(e.tbl p ps z).imp fun _ q=>offT p _ q⟩,fun p u z n nt=>?_,fun p z n=>?_⟩ ⟨?_,fun n m p h1 h2=>?_,fun n p ob h1 h2=>?_,r.tab.mono offT L.frz⟩ (.ref ?_)
        ·rw[off p fun z'=>?_];exact e.kept p u z n nt
         obtain⟨m,ds,_,_,hp',_⟩:=(inS p).mp z'
         have:=e.new p (Oc hp') n
         grind
        ·rcases Ou.mp z with z | z
         ·grind
         ·rw[N_.mp z]
          exact e.new p0 (Oc hp0) p0α
        ·grind
        ·have key:∀i,(α++[p0])[i]?=some p->(i<α.length/\α[i]?=some p)\/(i=α.length/\p=p0):=fun i hi=>by
          by_cases hl:i<α.length
          ·grind
          ·rw[N8 (by omega)] at hi
           grind
         rcases key n h1 with⟨a1,a2⟩ | ⟨a1,a2⟩<;>rcases key m h2 with⟨b1,b2⟩ | ⟨b1,b2⟩
         ·exact hh.inj n m p a2 b2
         ·rw[b2] at a2;exact absurd (Oc a2) p0α
         ·rw[a2] at b2;exact absurd (Oc b2) p0α
         ·omega
        ·by_cases hn:n<h.length
         ·rw[Oo (by omega),fZ e.pre (by omega)] at h1
          rw[Oo (by omega)] at h2
          exact m_ k0 e r hl L kp n p ob hn h1 h2
         ·rw[N8 (by omega)] at h2
          rw[N8 (by omega)] at h1
          by_cases h0:n - h.length=0
          ·rw[tl,h0] at h2
           rw[k0,h0] at h1
           simp at h1 h2
           subst h1 h2
           exact⟨vs0,by rw[off _ p0S];exact hv0,rs2⟩
          ·rw[k0,List.getElem?_eq_none (by simp;omega)] at h1;cases h1
        ·rw[<- k0,N8 (NK _)];simp
    | _=>exact w.elim
   | next=>exact q
   | brk=>exact q
   | cont=>exact q
end
section
variable {X:Cx}{g:GG}{ε:EE}{K:ND}
noncomputable def k9:List D->Option (List Bool)
 | []=>some []
 | .bl b::r=>(k9 r).map (b::·)
 | _=>none
theorem iN:∀{ds:List D}{bs:List Bool},k9 ds=some bs->ds=bs.map D.bl
 | [],_,e=>by cases e;rfl
 | d::ds,bs,e=>by
  cases d with
  | bl b=>
   simp only[k9] at e
   cases e2:k9 ds with
   | none=>simp_all
   | some cs=>
    rw[e2] at e
    cases e
    rw[iN e2];rfl
  | _=>cases e
theorem ao.Jc {α:List Addr}{H:Hp}:∀{bs:List Bool}{vs:List V},ao K g α H (bs.map D.bl) vs->vs=bs.map V.bl
 | [],_,.nil=>rfl
 | b::bs,_,.cons r t=>by
  cases r
  rw[ao.Jc t];rfl
noncomputable def pA (m:MF):MF:=fun ds h=>if a8 0 ds=true then match m ds [] with
  | .ok d _=>if gT 0 d=true then .ok d h else .bad
  | _=>.bad
 else m ds h
def xn (e:Ext K [] H α' H'):Ext K α H α H':=
 ⟨⟨Qm _,e.tup,e.frz,e.tbl⟩,fun p o h _ t=>e.kept p o h (by simp) t,fun p a b=>absurd a b⟩
def A3 (e:Ext K [] H α' H') (r:aK K g α H h) (t:gY K H'):aK K g α H' h:=
 ⟨r.len,r.inj,fun n p o a b=>(r.here n p o a b).ex0 (xn e).toEx0 fun u hu=>e.kept p u hu (by simp) (by obtain⟨u',e1,_,_,e4⟩:=(r.here n p o a b).isS;simp_all),t⟩
def CJ (h:spM K g np (pA m) vs H Q E):spM K g np m vs H Q E:=by
 obtain⟨hl,α,ds,h,rs,hh,w⟩:=h
 unfold pA at w
 by_cases lo:a8 0 ds=true
 ·rw[if_pos lo] at w
  cases e:m ds [] with
  | bad=>rw[e] at w;exact w.elim
  | err x h1=>rw[e] at w;exact w.elim
  | ok d h1=>
   rw[e] at w
   obtain⟨ld,w⟩:=WQ.cO w
   refine⟨hl,[],ds,[],dP ⟨fun n hn=>absurd hn (Rh _),fun _ _ z=>z,fun _ _ _ z=>z⟩ lo rs,⟨rfl,fun n m p a=>by simp at a,fun n p o a=>by simp at a,hh.tab⟩,?_⟩
   rw[e]
   exact fun v H' α' ex hr' rd=>(show aB K g α H Q d h from w) v H' α (xn ex) (A3 ex hh hr'.tab) (mj ⟨fun n hn=>absurd hn (Rh _),fun _ _ z=>z,fun _ _ _ z=>z⟩ ld rd)
 ·rw[if_neg lo] at w
  exact⟨hl,α,ds,h,rs,hh,w⟩
def BQ (F:b9 P w K mg base CX0 k f fd ps (spM K g np m)):b9 P w K mg base CX0 k f fd ps (spM K g np (pA m)):=
 ⟨fun vs H Q E h=>F.len vs H Q E (CJ h),fun A outer s H args us vs Q E hr e0 hb hv hsp=>F.run A outer s H args us vs Q E hr e0 hb hv (CJ hsp)⟩
end
end L2.FE
namespace L2
open PySem PySem.Spec PyProof.Rows
section
variable {prog:NT}{w:Oe}{A:Oa}{E:NI->NM->Prop}{s:NM}
def BP (hl:s.heap.IsTuple l vs.toArray) (hz:vs.length<=sizeLine)
  (h:Q vs { s with heap:=(s.heap.push (seqObj "list" #[] 0)).update s.heap.objs.size (Qf (·++vs.toArray)) }):wpAny (model prog w) A (collect (.ref l)) Q E s:=by
 obtain⟨o,ho,hc,n,hd⟩:=hl
 unfold collect;refine gV (Tn (PN entry_proto_collect' ?_))
 refine gV (Ri (NG ⟨Qv _ (by simp),PN entry_list_iadd' ?_⟩))
 show wpAny _ _ (Ow.List.listExtendWith (.ref s.heap.objs.size) (.ref l) (.ref s.heap.objs.size)) _ _ { s with heap:=s.heap.push (seqObj "list" #[] 0) }
 have g1:(s.heap.push (seqObj "list" #[] 0)).get? l=some o:=NF _ ho
 refine gV (QZ ⟨o,g1,hc⟩ ?_)
 rw[if_pos (by simp)]
 refine gV (S8 g1 hd (gV (S8 (NN _ rfl) rfl ?_)))
 refine gV (RX (NN _ rfl) rfl (NG ?_) (OI _) (by grind))
 refine gV (Uc (S9 (NN _ rfl) _) ?_)
 have e:((#[]:Array NI)++vs.toArray).toList=vs:=by simp
 show wpAny _ _ (pure ((#[]:Array NI)++vs.toArray).toList) Q E _;rw[e];exact NG h
def iD (hl:s.heap.IsTuple l vs.toArray) (hI:IntsAre vs ns) (h64:vs.length<64)
  (h:∀out ms , IntsAre out.toList ms->ms.Perm ns->ms.Pairwise (·<=·)->Q (.ref (s.heap.objs.size+1)) { s with heap:=sortedAll s.heap vs out }):wpAny (model prog w) A (call (.builtin "sorted") [.ref l]) Q E s:=by
 refine Calls.call_function_entry kind_sorted plain_sorted entry_sorted (args_sorted1 _) ?_
 refine gV (m:=checkCount "sorted" 1 1 _) (NG (gV (BP hl (by have:64<=sizeLine:=by decide
                                                                                     omega) (gV (Ri ?_)))))
 have n1:((s.heap.push (seqObj "list" #[] 0)).update s.heap.objs.size (Qf (·++vs.toArray))).objs.size=s.heap.objs.size+1:=(Heap.size_update ..).trans (size_push' ..)
 have o1:(((s.heap.push (seqObj "list" #[] 0)).update s.heap.objs.size (Qf (·++vs.toArray))).push (seqObj "list" vs.toArray 0)).get? (s.heap.objs.size+1)=some (seqObj "list" vs.toArray 0):=n1 ▸ NN _ rfl
 show wpAny _ _ _ _ _ { s with heap:=((s.heap.push (seqObj "list" #[] 0)).update s.heap.objs.size (Qf (·++vs.toArray))).push (seqObj "list" vs.toArray 0) };rw[n1]
 exact gV (N9 (OA slot_list_sort ⟨_,o1,rfl⟩ entry_list_sort (list_sort_tree o1 hI h64 fun out ms a1 a2 a3=>⟨_,rfl,NG ⟨_,rfl,h out ms a1 a2 a3⟩⟩) (args_list_sort _)))
end
noncomputable def insI (x:Int):List Int->List Int
 | []=>[x]
 | y::r=>if x<=y then x::y::r else y::insI x r
noncomputable def sortI:List Int->List Int
 | []=>[]
 | x::r=>insI x (sortI r)
theorem insI_perm (x:Int):∀l,(insI x l).Perm (x::l)
 | []=>.refl _
 | y::r=>by
  unfold insI
  split
  ·rfl
  ·exact((insI_perm x r).cons y).trans (.swap _ _ _)
theorem sortI_perm:∀l,(sortI l).Perm l
 | []=>.refl _
 | x::r=>(insI_perm x (sortI r)).trans ((sortI_perm r).cons x)
theorem lH (x:Int):∀l:List Int,l.Pairwise (·<=·)->(insI x l).Pairwise (·<=·)
 | [],_=>by simp[insI]
 | y::r,h=>by
  unfold insI
  rw[Oi] at h
  split
  ·rename_i hx
   refine Oi.mpr ⟨fun z hz=>?_,Oi.mpr h⟩
   grind
  ·rename_i hx
   refine Oi.mpr ⟨fun z hz=>?_,lH x r h.2⟩
   rcases NV.mp ((insI_perm x r).mem_iff.mp hz) with rfl | hz
   ·omega
   simp_all
theorem f7:∀l,(sortI l).Pairwise (·<=·)
 | []=>.nil
 | x::r=>lH x _ (f7 r)
theorem lq:∀{xs ys:List Int},xs.Perm ys->xs.Pairwise (·<=·)->ys.Pairwise (·<=·)->xs=ys
 | [],ys,p,_,_=>by simp_all
 | x::xs,[],p,_,_=>absurd (S_.eq_nil p) (by simp)
 | x::xs,y::ys,p,hx,hy=>by
  rw[Oi] at hx hy
  have e:x=y:=by
   have a:=p.mem_iff.mp NO
   have b:=p.mem_iff.mpr NO
   grind
  subst e
  rw[lq (List.perm_cons x |>.mp p) hx.2 hy.2]
theorem mE:∀{ns:List Int}{us:List NI},Vals (ns.map V.int) us->IntsAre us ns
 | [],_,.nil=>.nil
 | n::ns,_,.cons r t=>by
  obtain⟨t',rfl⟩:=r
  exact .cons _ _ (mE t)
theorem pI:∀{us:List NI}{ns:List Int},IntsAre us ns->Vals (ns.map V.int) us
 | _,_,.nil=>.nil
 | _,_,.cons _ _ t=>.cons ⟨_,rfl⟩ (pI t)
section
variable {X:Cx}
def Ab:aV X (.builtin "sorted") (fun vs H Q=>∃p ns,vs=[.ref p]/\(SqL X.K H p (ns.map V.int)\/SqT X.K H p (ns.map V.int))/\ns.length<64/\∀l,H l=none->Q (.ref l) (upd H l (.lst ((sortI ns).map V.int)))):=by
 intro pins s σ H xs us Q I r h
 obtain⟨p,ns,rfl,hq,h64,q⟩:=h
 obtain⟨u,rfl,rx⟩:=vals1 r
 cases rx
 have fin:∀{its:List NI} (out:Array NI) (ms:List Int),IntsAre out.toList ms->ms.Perm ns->ms.Pairwise (·<=·)->EP X pins σ Q (.ref (s.heap.objs.size+1)) { s with heap:=sortedAll s.heap its out }:=fun{its} out ms a1 a2 a3=>by
  have e:=lq (a2.trans (sortI_perm ns).symm) a3 (f7 ns)
  subst e
  obtain⟨k,hk⟩:=sortedAll_at s.heap its out
  have hn:=I.hok.fresh (Ts _)
  have len:((sortI ns).map V.int).length<=sizeLine:=by
   have:64<=sizeLine:=by decide
   rw[NY,(sortI_perm ns).length_eq];omega
  refine⟨.ref (s.heap.objs.size+1),upd H (s.heap.objs.size+1) (.lst ((sortI ns).map V.int)),I.laid (fun _ _ z=>sortedAll_old z) (Ts _) ⟨len,out.toList,k,pI a1,?_⟩,rfl,q _ hn⟩
  rw[hk]
 rcases hq with hq | hq
 ·obtain⟨its,rv,pl,hz⟩:=I.list hq
  have hl:=rv.length
  rw[NY] at hl
  exact sorted_ints pl.isList (mE rv) (by omega) fin
 ·obtain⟨its,rv,pl,hz⟩:=I.tuple hq
  have hl:=rv.length
  rw[NY] at hl
  exact iD (show s.heap.IsTuple p its.toArray from pl) (mE rv) (by omega) fin
end
end L2
namespace L2.FE
open PySem PySem.Spec PyProof.Rows
section
variable {X:Cx}{g:GG}{ε:EE}{K:ND}
noncomputable def lg (nl:NL):List D->Hh->R D:=fun ds h=>match ds with
 | [d]=>match e9 d h with
  | some xs=>match intsOf xs with
   | some ns=>if ns.length<64 then nl ((sortI ns).map D.int) h else .bad
   | none=>.bad
  | none=>.bad
 | _=>.bad
theorem sF:∀(ns:List Int),ao K g α H (ns.map D.int) (ns.map V.int)
 | []=>.nil
 | n::ns=>.cons (.int n) (sF ns)
def E_ [iz nl]:kF K g ε (lg nl) (fun vs H Q=>∃p ns,vs=[.ref p]/\(SqL K H p (ns.map V.int)\/SqT K H p (ns.map V.int))/\ns.length<64/\∀l,H l=none->gx Q (.ref l) (upd H l (.lst ((sortI ns).map V.int)))):=by
 intro α H h a x Q r ra w
 obtain⟨d,v,rfl,rfl,rd⟩:=kE (fun _ _ _ _=>rfl) (fun _=>rfl) ra w
 unfold lg at w
 simp only at w
 cases e:e9 d h with
 | none=>rw[e] at w;exact w.elim
 | some ds=>
  rw[e] at w
  simp only at w
  cases e2:intsOf ds with
  | none=>rw[e2] at w;exact w.elim
  | some ns=>
   rw[e2] at w
   obtain⟨h64,w⟩:=WQ.cO w
   obtain⟨p,vs,rfl,hq,rs⟩:=mw r rd e
   have e3:=dR e2
   subst e3
   have e4:=rs.yI
   subst e4
   exact⟨p,ns,rfl,hq,h64,fun l hl=>NL.post w r (sF _) hl⟩
def IT {mg:Str->Option NI}{x:Str}{f:Addr} (e:g=gOf mg) (h:mg x=some (.ref f)):g x=some f:=by rw[e];simp[gOf,h]
end
def i4 (ok:HOk P w H h) (e:H p=some (AtO p o)):h.get? p=some o:=(show a_ P w H h p (AtO p o) from ok p _ e).1
def kO {rest:List Expr}:starEach (.Name a b::rest) env=(false,eval (.Name a b) env)::starEach rest env:=by rfl
def zp:backTo pos ((false,t)::r)=(false,t)::backTo pos r:=rfl
theorem lE {env:Env}{pos:Pos}{x:Str}{p2:Pos}:∀qs:List (Str × Pos),(backTo pos (starEach (qs.map (fun y=>Uo y.1 y.2)++[.Name x p2]) env)).any (·.1)=false
 | []=>by rfl
 | q::qs=>by
  rw[NR,List.cons_append,kO,zp,Pf,lE qs];rfl
section
variable {P:NT}{w:Oe}{K:ND}{mg:Str->Option NI}{base:Heap}{H:Hp}{clos:List (Str × Addr)}{scope:R0}{env:Env}{A:Oa}{E:NI->NM->Prop}{s:NM}{m:Str->Option NI}
theorem p8 {x:Str}{p2 pos:Pos}{u:NI} (hs:env.scope.kind=.function) (hcl:env.cells=clos) (hok:HOk P w H s.heap) (hx:env.kindOf x=some .local) (hxd:(x == ("__debug__" : Str))=false) (hn:s.heap.Ns env.locals m) (hm:m x=some u) :
  ∀(qs:List (Str × Pos)) (vs:List V) (Q:List NI->NM->Prop),jo H clos (qs.map (·.1)) vs->(∀y∈qs.map (·.1),env.kindOf y=some .free/\(y == ("__debug__" : Str))=false/\(y == ("__classdict__" : Str))=false) →
   (∀us,Vals vs us->Q (us++[u]) s)->wpAny (model P w) A (spliced (backTo pos (starEach (qs.map (fun y=>Uo y.1 y.2)++[.Name x p2]) env))) Q E s
 | [],_,Q,.nil,_,h=>by
  exact Qs (Sk (RQ hs hx hn hm (So (h [] .nil))) hxd)
 | q::qs,_,Q,.cons ⟨c,o,z,hl,hc,hd,r⟩ t,hf,h=>by
  obtain⟨f1,f2,f3⟩:=hf q.1 (by simp)
  refine Qs (Sk (wpAny_loadName_free hs f1 (by simp_all) ⟨o,i4 hok hc,hd⟩ ?_ f3) f2)
  exact p8 hs hcl hok hx hxd hn hm qs _ _ t (fun y hy=>hf y (by simp_all)) fun us r2=>h (z::us) (.cons r r2)
end
def DL {K:ND}
  (F:b9 P w K mg base CX0 k f fd ps sp) (hkp:Om K (.ref f)=true) (hb:Binds K fd ps []) (hm:mg fn=some (.ref f)) (T:sY fn x qual ys params body scope)
          (hr:bG (k+1) A) (e0:vE P w K mg base A outer s H)
  (hp:H p=some (AtO p (Pw "<lambda>" qual params body scope clos pm c' ctv))) (hc:H c'=some (AtO c' oc)) (hd:oc.data=.fields vc) (hv:vc[1]?=some (.str qual t)) (cs:jo H clos ys cv) (rv:RelV v u)
  (h:sp (cv++[v]) H Q E1):codeAny (model P w) A (.call (.ref p) ⟨[u],[]⟩) (CR CX0 outer P w H s Q E) s:=by
 refine PySem.W.kla_callFunE hr.depth (i4 e0.hok hp) rfl T.co T.gen rfl ⟨c',oc,vc,t,rfl,i4 e0.hok hc,hd,hv⟩ ?_
 rw[T.bind]
 refine NG (RU T.Gk (by intro y hy;simp at hy;subst hy;exact T.loc) (fun h₁ hns hsb=>?_) T.kind)
 have keep1:=fun b o e=>hsb.extBut b o (NU (NJ e)) (NF _ e)
 refine⟨(e0.mod.nolimit.keeps fun b o e=>(e0.bs b o e).1).keeps keep1,?_⟩
 refine PySem.W.kla_codeExpr ?_
 obtain⟨p0,p2,p3,qs,rfl,rfl⟩:=T.tx
 have KX:=(e0.mod.kin.keeps fun b o e=>(e0.bs b o e).1).keeps keep1
 have hok1:=e0.hok.kept keep1
 refine Qt (QK T.kind T.glob (Calls.loadGlobal_global ((e0.mod.glob.keeps fun b o e=>(e0.bs b o e).1).keeps keep1) hm ?_) T.nd.1)
 have hL:frs (O_ qual scope s.heap.objs.size p (.ref c') clos::outer)=s.heap.objs.size::frs outer:=rfl
 have sz:s.heap.objs.size<=h₁.objs.size:=by
  by_cases z:s.heap.objs.size=0
  ·omega
  ·exact RH hns.lt
 have e1:vE P w K mg base (A.deeper (O_ qual scope s.heap.objs.size p (.ref c') clos)) (O_ qual scope s.heap.objs.size p (.ref c') clos::outer) { s with heap:=h₁,toks:=s.toks+1 } H:=
  ⟨RR e0.frames,e0.mod,fun b o e=>⟨keep1 b o (e0.bs b o e).1,(e0.bs b o e).2⟩,N4 e0.bsz sz,
   Heap.FunFrames.cons (by show scope.kind≠_;rw[T.kind];decide) rfl hns (QL e0.bsz) (Heap.FunFrames.of_keeps (fun b o e _=>⟨o,keep1 b o e,rfl⟩) e0.g_),
   fun b hb'=>by
    rcases NV.mp hb' with z | z
    ·rw[z];exact e0.hok.fresh (NK _)
    ·exact e0.frf b z,hok1,e0.bare⟩
 have fin:∀us:List NI,Vals cv us->wpAny (model P w) (A.deeper (O_ qual scope s.heap.objs.size p (.ref c') clos)) (call (.ref f) ([]++(us++[u]))) (fun z s'=>CR CX0 outer P w H s Q E (.ok (.ret z)) s')
   (fun e' s'=>wpAny (model P w) (A.deeper (O_ qual scope s.heap.objs.size p (.ref c') clos)) (leaving (O_ qual scope s.heap.objs.size p (.ref c') clos) e') (fun _ s''=>CR CX0 outer P w H s Q E (.error e') s'') (fun e'' s''=>CR CX0 outer P w H s Q E (.error e'') s'') s') { s with heap:=h₁,toks:=s.toks+1 }:=fun us r2=>by
  have rr:=r2.append (.cons rv .nil)
  have hl:(us++[u]).length=ps.length:=by rw[<- rr.length];exact F.len _ _ _ _ h
  have hb2:=hb { s with heap:=h₁,toks:=s.toks+1 } (us++[u]) KX (by simp_all)
  rw[O2] at hb2
  refine QF (PF (F.run _ _ _ H ⟨us++[u],[]⟩ (us++[u]) (cv++[v]) Q E1 (hr.deeper _) e1 hb2 rr h) fun r s' hq=>?_)
  cases r with
  | error e=>exact QE hq
  | ok fl=>
   cases fl with
   | ret z=>
    obtain⟨y,H',os,bare,un,hok,r,q⟩:=(show CE _ P w H _ Q z s' from hq)
    have old:∀{b:Addr} {o:Obj},s.heap.get? b=some o->b∉frs outer->b∉frs (O_ qual scope s.heap.objs.size p (.ref c') clos::outer):=fun{b o} e n z=>by
     rcases NV.mp z with z | z
     ·exact absurd (NJ e) (by simp_all)
     ·exact n z
    exact⟨y,H',os,bare,⟨fun b o e n hb' hx=>un.keep b o (keep1 b o e) n (old e hb') hx,fun b o e n hb' hx=>un.slot b o (keep1 b o e) n (by simp_all) hx,fun b o e n hx=>un.free b o (keep1 b o e) n hx,fun b o e hx=>un.there b o (keep1 b o e) hx,un.i5,un.jA,un.lM⟩,hok,r,q⟩
   | next=>assumption
   | brk=>assumption
   | cont=>assumption
 have main:=p8 (env:=O_ qual scope s.heap.objs.size p (.ref c') clos) (A:=A.deeper (O_ qual scope s.heap.objs.size p (.ref c') clos)) (s:={ s with heap:=h₁,toks:=s.toks+1 }) (x:=x) (p2:=p2) (pos:=p3) (u:=u)
  (E:=fun e' s'=>wpAny (model P w) (A.deeper (O_ qual scope s.heap.objs.size p (.ref c') clos)) (leaving (O_ qual scope s.heap.objs.size p (.ref c') clos) e') (fun _ s''=>CR CX0 outer P w H s Q E (.error e') s'') (fun e'' s''=>CR CX0 outer P w H s Q E (.error e'') s'') s')
  T.kind rfl hok1 T.loc T.nd.2 hns (by simp) qs cv (fun us s2=>K.In s2.heap/\wpAny (model P w) (A.deeper (O_ qual scope s.heap.objs.size p (.ref c') clos)) (call (.ref f) ([]++us)) (fun z s'=>CR CX0 outer P w H s Q E (.ok (.ret z)) s')
   (fun e' s'=>wpAny (model P w) (A.deeper (O_ qual scope s.heap.objs.size p (.ref c') clos)) (leaving (O_ qual scope s.heap.objs.size p (.ref c') clos) e') (fun _ s''=>CR CX0 outer P w H s Q E (.error e') s'') (fun e'' s''=>CR CX0 outer P w H s Q E (.error e'') s'') s') s2) cs T.free fun us r2=>⟨KX,fin us r2⟩
 cases qs with
 | nil=>exact Ra (h₀:=h₁) KX hkp main kO rfl
 | cons q qs=>exact Ra (h₀:=h₁) KX hkp main kO (lE qs)
noncomputable def fV (tab:Str->Option (Nat × MF)) (f:ME) (a:MA):ME:=fun env h=>(f env h).bind fun d h1=>match d with
 | .clo x ds=>match tab x with
  | some (np,m)=>if ds.length+1=np then (a env h1).bind fun es h2=>m (ds++es) h2 else .bad
  | none=>.bad
 | _=>.bad
def m8 {X:Cx}{g:GG}{k:Nat}{tab:Str->Option (Nat × MF)}{fe e:Expr}{pos:Pos}{mf:ME}{mr:MA}
  (T:∀x np m,tab x=some (np,m)->∃f fd ps,X.mg x=some (.ref f)/\b9 X.prog X.w X.K X.mg X.base CX0 k f fd ps (spM X.K g np m)/\Om X.K (.ref f)=true/\Binds X.K fd ps [])
  (hr:bG (k+1) X.A) (hf:PE X fe (tM X.K g E00 mf)) (ha:PA X [e] (tMA X.K g E00 mr)) (hlen:∀env h ds h',mr env h=.ok ds h'->ds.length=1)
  (hc:eval (.Call fe [e] [] pos) X.env=(do callWith pos (← eval fe X.env) [] (backTo pos (starEach [e] X.env)) (backToKw pos (keywordEach [] X.env))):=by rfl)
  (he:starEach [e] X.env=(false,eval e X.env)::starEach [] X.env:=by rfl) :
  PE X (.Call fe [e] [] pos) (tM X.K g E00 (fV tab mf mr)):=by
 intro pins s σ H Q I ⟨α,env,h,s0,w⟩
 refine Call_ (thn (hf pins s σ H (fun v H1=>∃α1 h1 p o clos ys cv c' oc qual t vc x ds np m,v=.ref p/\H1 p=some (AtO p o)/\F5 x clos ys o c' qual/\H1 c'=some (AtO c' oc)/\oc.data=.fields vc/\vc[1]?=some (.str qual t)/\jo H1 clos ys cv/\ao X.K g α1 H1 ds cv ∧
   tab x=some (np,m)/\ds.length+1=np/\cM X.K g α1 H1 env σ h1/\WQ X.K g E00 α1 H1 ((mr env h1).bind fun es h2=>m (ds++es) h2) (aB X.K g α1 H1 Q)) I ?_) fun v s1 ⟨x,H1,I1,r1,q1⟩=>?_) hc
 ·refine tM.use s0 w.bind fun d1 h1 v1 H1 α1 e1 s1 r1 w1=>?_
  cases r1 with
  | @clo x ds p o clos ys vs c' oc qual t vc hp hl hc' hd hv cs rs=>
   simp only at w1
   cases et:tab x with
   | none=>rw[et] at w1;exact w1.elim
   | some q=>
    obtain⟨np,m⟩:=q
    rw[et] at w1
    obtain⟨hn,w1⟩:=WQ.cO w1
    exact⟨α1,h1,p,o,clos,ys,vs,c',oc,qual,t,vc,x,ds,np,m,rfl,hp,hl,hc',hd,hv,cs,rs,et,hn,s1,WQ.post e1 w1⟩
  | _=>exact w1.elim
 ·obtain⟨α1,h1,p,o,clos,ys,cv,c',oc,qual,t,vc,x,ds,np,m,rfl,hp,⟨params,body,scope,pm,ctv,xa,rfl,tx⟩,hc',hd,hv,cs,rs,et,hn,s2,w2⟩:=q1
  cases r1
  obtain⟨f,fd,ps,hm,F,hk,hb⟩:=T x np m et
  have fn:∀{h:Heap},h.get? p=some (Pw "<lambda>" qual params body scope clos pm c' ctv)->PySem.W.FnAt p h:=fun e=>⟨_,_,_,_,e⟩
  refine PySem.W.callWith_F (fn (i4 I1.hok hp)) (thn (ha pos pins s1 σ H1 (fun vs H2=>∃v,vs=[v]/\H2 p=some (AtO p (Pw "<lambda>" qual params body scope clos pm c' ctv))/\H2 c'=some (AtO c' oc)/\jo H2 clos ys cv/\spM X.K g np m (cv++[v]) H2 Q E0) I1 ?_) fun us s3 ⟨vs,H2,I2,r,v,ev,hp2,hc2,cs2,q⟩=>⟨fn (i4 I2.hok hp2),?_⟩) he rfl
  ·refine⟨α1,env,h1,s2,w2.bind.mono fun es h3 eq w3 v3 H3 α3 e3 hr3 r3=>?_⟩
   have l1:=hlen env h1 es h3 eq
   obtain⟨d,rfl⟩:∃d,es=[d]:=List.length_eq_one_iff.mp l1
   cases r3 with
   | @cons _ v _ _ rd rn=>
    cases rn
    refine⟨v,rfl,e3.frz _ _ _ hp,e3.frz _ _ _ hc',L2.Paired.oY cs fun _ _ ⟨c,o,u,l,a,b⟩=>⟨c,o,u,l,e3.frz _ _ _ a,b⟩,?_,α3,ds++[d],h3,(rs.ext e3).append (.cons rd .nil),hr3,w3.post e3⟩
    rw[OF,<- rs.length];exact hn
  ·subst ev
   cases r with
   | @cons _ u _ _ ru rn=>
    cases rn
    refine QF (PF (DL F hk hb hm tx (E:=E0) hr I2.Ig hp2 hc2 hd hv cs2 ru q) fun r s' hq=>?_)
    cases r with
    | error e=>exact QE hq
    | ok fl=>
     cases fl with
     | ret u=>exact I2.after hq
     | next=>assumption
     | brk=>assumption
     | cont=>assumption
open Classical in
noncomputable def mkH (S:Addr->Prop) (h2:Heap) (PT:Addr) (T:Array NI) (H1:Hp):Hp:=fun b=>if S b then (h2.get? b).map (AtO b) else if b=PT then some (.tbl T) else H1 b
structure MkS (P) (w) (S:Addr->Prop) (h1 h2:Heap) (PT) (ps more) (H1):Prop where
 hok:HOk P w H1 h1
 hPT:H1 PT=some (.tbl ps)
 k:∀b o,b≠PT->h1.get? b=some o->h2.get? b=some o
 hT:h2.get? PT=some (QR (ps++more))
 hS:∀b,S b->b≠PT/\(∃o,h2.get? b=some o)/\(H1 b=none\/∃o,H1 b=some (AtO b o))
section
variable {P:NT}{w:Oe}{S:Addr->Prop}{h0 h1 h2:Heap}{PT:Addr}{ps more:Array NI}{H H1:Hp}{K:ND}{g:GG}{α:List Addr}{h:Hh}{fs:List Addr}
def MkS.at_ (M:MkS P w S h1 h2 PT ps more H1) (hb:S b) (e:h2.get? b=some o):mkH S h2 PT (ps++more) H1 b=some (AtO b o):=by
 unfold mkH;simp_all
def MkS.pt (M:MkS P w S h1 h2 PT ps more H1):mkH S h2 PT (ps++more) H1 PT=some (.tbl (ps++more)):=by
 unfold mkH;rw[if_neg fun z=>(M.hS PT z).1 rfl,if_pos rfl]
def MkS.off (M:MkS P w S h1 h2 PT ps more H1) (e:H1 b=some o) (n:b≠PT):mkH S h2 PT (ps++more) H1 b=some o:=by
 by_cases hb:S b
 ·obtain⟨_,⟨o2,e2⟩,z | ⟨o1,z⟩⟩:=M.hS b hb
  ·simp_all
  ·rw[e] at z;cases z
   have e1:=M.k b o1 n (i4 M.hok e)
   exact M.at_ hb e1
 ·unfold mkH;simp_all
def MkS.non (M:MkS P w S h1 h2 PT ps more H1) (e:H1 b=none) (n:¬ S b):mkH S h2 PT (ps++more) H1 b=none:=by
 unfold mkH;rw[if_neg n,if_neg (aE M.hPT e).symm];exact e
def MkS.LU (M:MkS P w S h1 h2 PT ps more H1):HOk P w (mkH S h2 PT (ps++more) H1) h2:=by
 intro b u e
 by_cases hb:S b
 ·obtain⟨_,⟨o2,e2⟩,_⟩:=M.hS b hb
  rw[M.at_ hb e2] at e
  cases e
  exact⟨e2,e2,⟨o2,e2⟩,fun a c x y=>y _ x⟩
 ·by_cases hp:b=PT
  ·subst hp
   rw[M.pt] at e
   cases e
   exact M.hT
  ·have e1:H1 b=some u:=by unfold mkH at e;simp_all
   refine(M.hok b u e1).iy (fun c x hc hx=>M.k c x ?_ hx) (fun c z=>M.off z fun q=>?_) fun c xs z=>M.off z fun q=>?_
   ·rcases hc with rfl | hc
    ·exact hp
    ·rintro rfl;rw[M.hPT] at hc;cases hc
   ·subst q;rw[M.hPT] at z;cases z
   ·subst q;rw[M.hPT] at z;cases z
def MkS.un (M:MkS P w S h1 h2 PT ps more H1) (u:Un fs [] H H1 h0 h1) (hn:∀b,S b->h0.objs.size<=b\/H1 b≠none):Un fs [] H (mkH S h2 PT (ps++more) H1) h0 h2:=by
 have nt:=fun b o e n=>(aE M.hPT (u.free b o e n (by simp))).symm
 refine⟨fun b o e n hf hx=>M.k b o (nt b o e n) (u.keep b o e n hf hx),fun b o e n hf hx=>?_,fun b o e n hx=>?_,fun b o e hx=>?_,fun b xs e=>M.off (u.i5 b xs e) fun z=>?_,fun b o x e=>M.off (u.jA b o x e) fun z=>?_,fun b qs e=>?_⟩
 ·obtain⟨sl,e1⟩:=u.slot b o e n hf hx
  exact⟨sl,M.k b _ (nt b o e n) e1⟩
 ·have z:=u.free b o e n hx
  refine M.non z fun hb=>?_
  rcases hn b hb with q | q
  ·exact absurd (NJ e) (TU.mpr q)
  grind
 ·obtain⟨o1,e1⟩:=u.there b o e hx
  by_cases z:b=PT
  ·exact⟨_,z ▸ M.hT⟩
  ·exact⟨o1,M.k b o1 z e1⟩
 ·have:=u.i5 b xs e;rw[z,M.hPT] at this;grind
 ·have:=u.jA b o x e;rw[z,M.hPT] at this;grind
 ·obtain⟨m1,e1⟩:=u.lM b qs e
  by_cases z:b=PT
  ·subst z
   rw[M.hPT] at e1
   cases e1
   exact⟨m1++more,by rw[M.pt,Array.append_assoc]⟩
  ·exact⟨m1,M.off e1 z⟩
def MkS.ext (M:MkS P w S h1 h2 PT ps more H1):Ext K α H1 α (mkH S h2 PT (ps++more) H1):=
 ⟨⟨Qm _,fun p xs e=>M.off e (fun z=>by rw[z,M.hPT] at e;cases e),fun p o x e=>M.off e (fun z=>by rw[z,M.hPT] at e;cases e),fun p qs e=>by
  by_cases z:p=PT
  ·subst z
   rw[M.hPT] at e;cases e
   exact⟨more,M.pt⟩
  ·exact⟨#[],by rw[M.off e z];simp⟩⟩,fun p o e _ t=>M.off e (fun z=>by rw[z,M.hPT] at e;grind),fun _ z n=>absurd z n⟩
def MkS.MC (M:MkS P w S h1 h2 PT ps more H1) (r:aK K g α H1 h) (uq:∀f q,jJ K f=some q->q.1=PT->q.2=ns) (t:tX (mkH S h2 PT (ps++more) H1) (PT,ns)):aK K g α (mkH S h2 PT (ps++more) H1) h:=by
 refine⟨r.len,r.inj,fun n p o a b=>(r.here n p o a b).ex0 M.ext.toEx0 fun x e=>M.off e fun z=>?_,fun f q e=>?_⟩
 ·obtain⟨u,e1,_,_,nt⟩:=r.mem (Oc a)
  rw[z,M.hPT] at e1;grind
 ·by_cases z:q.1=PT
  ·grind
  ·rcases r.tab f q e with x | ⟨c',oc,vc,tk,x,hc,hd⟩
   ·exact .inl (M.off x z)
   ·exact .inr ⟨c',oc,vc,tk,M.off x z,M.off hc (fun y=>by rw[y,M.hPT] at hc;cases hc),hd⟩
end
def zZ {h h':Heap}{mg:Str->Option NI}{PT:Addr} (k:∀b o,h.get? b=some o->h'.get? b=some o) (x:h.BuiltinsAt mg PT):h'.BuiltinsAt mg PT:=
 let ⟨bm,o,a,b,c,d,e,r⟩:=x;⟨bm,o,a,b,c,d,k _ _ e,r⟩
def Made (X:Cx) (g:GG) (α:List Addr) (h:Hh) (H1:Hp) (s1:NM) (d:D) (u:NI) (s2:NM):Prop:=∃p H2,u=.ref p/\s2.os=s1.os/\s2.gens=s1.gens/\HOk X.prog X.w H2 s2.heap/\Un X.fs [] X.aD H2 X.ax.heap s2.heap/\Ext X.K α H1 α H2/\aK X.K g α H2 h/\aC X.K g α H2 d (.ref p) ∧
 (∀b o,H1 b=none->s1.heap.get? b=some o->s2.heap.get? b=some o)/\(∀b o,s1.heap.get? b=some o->H1 b=none->(∀x c,X.env.cells.lookup x=some c->c≠b)->H2 b=none)
def B5 {X:Cx}{g:GG}{pins:List (Addr × Obj)}{σ:St}{H1:Hp}{s1:NM}{α:List Addr}{h:Hh}{params:Tz}{body:Expr}{scope:R0}{pos:Pos}{clos:List (Str × Addr)}{c PT f:Addr}{lf x ql:Str}{ys:List Str}{vs:List V}{ds:List D}{E:NI->NM->Prop}
  (J:Inv X pins σ H1 s1) (hex:X.ex=[]) (hdef:defaultsOf params X.env=([],[])) (hq:X.env.qual++"<lambda>" = ql) (hcode:X.env.code=.ref c) (C:Pj X.K c PT=true) (hB:X.base.BuiltinsAt X.mg PT) (hgP:mainGlobals≠PT)
  (hmk:jJ X.K f=some (PT,pos,ql)) (uq:∀f q,jJ X.K f=some q->q.1=PT->q.2=(pos,ql)) (hcl:closureFor scope X.env=pure clos) (hcs:∀y c,clos.lookup y=some c->X.env.cells.lookup y=some c) (hfn:∀y,X.fn y=true)
  (T:sY lf x ql ys params body scope) (hr:aK X.K g α H1 h) (hvs:Paired (fun y v=>(∃c,clos.lookup y=some c)/\X.env.kindOf y=some .cell/\∃i:Nat,X.N[i]?=some y/\σ[i]?=some (some v)) ys vs) (rds:ao X.K g α H1 ds vs) :
  wpAny (model X.prog X.w) X.A (eval (.Lambda params body scope pos) X.env) (Made X g α h H1 s1 (.clo lf ds)) E s1:=by
 subst hq
 refine PySem.W.kla_eval hdef ?_
 have Ch:=PySem.W.codeHd_of_K J.kIn C
 have hg:=J.mod.glob.keeps J.bk
 have hb:=zZ J.bk hB
 obtain⟨m,hns,hloc⟩:=J.loc
 have fin:∀(h':Heap) (tk:Tok) (c':Addr) (ctv:NI) (oc:Obj) (vc:Array NI) (t:Tok) (ps more:Array NI),H1 PT=some (.tbl ps)->(∀b o,b≠PT->s1.heap.get? b=some o->h'.get? b=some o)->s1.heap.objs.size<=h'.objs.size->h'.get? PT=some (QR (ps++more)) →
   ps++more = #[rawInt pos.line,rawInt pos.col,.ref c']->h'.get? c'=some oc->oc.data=.fields vc->vc[1]?=some (.str (X.env.qual++"<lambda>") t)->c'≠PT->((H1 c'=none/\s1.heap.objs.size<=c')\/H1 c'=some (AtO c' oc)) →
   Made X g α h H1 s1 (.clo lf ds) (.ref h'.objs.size) { s1 with heap:=h'.push (Pw "<lambda>" (X.env.qual++"<lambda>") params body scope clos ((X.mg "__name__").getD .none) c' ctv),toks:=tk }:=by
  intro h' tk c' ctv oc vc t ps more hPT hk hsz hT hT2 hc hd hv hcP hc1
  have kp:∀b o,h'.get? b=some o->(h'.push (Pw "<lambda>" (X.env.qual++"<lambda>") params body scope clos ((X.mg "__name__").getD .none) c' ctv)).get? b=some o:=fun b o e=>NF _ e
  have pp:(h'.push (Pw "<lambda>" (X.env.qual++"<lambda>") params body scope clos ((X.mg "__name__").getD .none) c' ctv)).get? h'.objs.size=some (Pw "<lambda>" (X.env.qual++"<lambda>") params body scope clos ((X.mg "__name__").getD .none) c' ctv):=NN _ rfl
  have M:MkS X.prog X.w (fun b=>b=h'.objs.size\/b=c'\/∃y,clos.lookup y=some b) s1.heap (h'.push (Pw "<lambda>" (X.env.qual++"<lambda>") params body scope clos ((X.mg "__name__").getD .none) c' ctv)) PT ps more H1:=by
   refine⟨J.hok,hPT,fun b o n e=>kp b o (hk b o n e),kp _ _ hT,fun b hb=>?_⟩
   rcases hb with rfl | rfl | ⟨y,hy⟩
   ·exact⟨fun z=>absurd (NJ hT) (by simp_all),⟨_,pp⟩,.inl (J.hok.fresh hsz)⟩
   ·grind
   ·have z:=J.cD y b (hcs y b hy)
    obtain⟨v,o,e,_⟩:=J.cell y b (hcs y b hy)
    grind
  have atp:=M.at_ (.inl rfl) pp
  have atc:=M.at_ (.inr (.inl rfl)) (kp _ _ hc)
  refine⟨h'.objs.size,_,rfl,rfl,rfl,M.LU,M.un (hex ▸ J.base) fun b hb=>?_,M.ext,M.MC hr uq (.inr ⟨c',oc,vc,t,?_,atc,hd,hv⟩),?_,fun b o n e=>kp b o (hk b o (aE hPT n).symm e),fun b o e n hcc=>M.non n fun hb=>?_⟩
  ·rcases hb with rfl | rfl | ⟨y,hy⟩
   ·exact .inl (N4 J.sz hsz)
   ·rcases hc1 with⟨_,z⟩ | z
    ·exact .inl (N4 J.sz z)
    simp_all
   ·exact .inl (J.ok.cab y b (hfn y) (hcs y b hy))
  ·rw[M.pt,hT2]
  ·refine .clo atp ⟨params,body,scope,_,ctv,x,rfl,T⟩ atc hd hv (L2.Paired.oY hvs fun y v ⟨⟨cc,hcc⟩,kd,i,hN,hσ⟩=>?_) (rds.ext M.ext)
   obtain⟨u,ru,lk⟩:=hloc i y v hN hσ (.inr (.inl kd))
   rcases lk with⟨z,_⟩ | ⟨_,c2,hc2,o,e,hdo⟩
   ·rw[kd] at z;cases z
   ·rw[hcs y cc hcc] at hc2
    cases hc2
    have z:=J.cD y cc (hcs y cc hcc)
    exact⟨cc,o,u,hcc,M.at_ (.inr (.inr ⟨y,hcc⟩)) (kp _ _ (hk cc o (aE hPT z).symm e)),hdo,ru⟩
  ·rcases hb with rfl | rfl | ⟨y,hy⟩
   ·exact absurd (NJ e) (TU.mpr hsz)
   ·rcases hc1 with⟨_,z⟩ | z
    ·exact absurd (NJ e) (TU.mpr z)
    simp_all
   grind
 rcases hr.tab f _ hmk with hPT | ⟨c',oc,vc,t,hPT,hc,hd,hv⟩
 ·have hP:=J.hok PT _ hPT
  refine PySem.W.kla_makeFunction hcl J.ok.glob hg hcode Ch hP trivial rfl hgP hb fun c' ctv h' tk hx hge hlt hrec htb=>?_
  obtain⟨c2,oc,vc,t,z,hc,hd,hv⟩:=hrec
  cases z
  refine fin h' tk c' ctv oc vc t _ _ hPT (fun b o n e=>hx b o n e) (by omega) htb (by simp) hc hd hv (fun z=>?_) (.inl ⟨J.hok.fresh hge,hge⟩)
  exact absurd (NJ hP) (by rw[<- z];exact TU.mpr hge)
 ·have hP:=J.hok PT _ hPT
  refine PySem.W.kla_makeFunctionHit (cv:=.ref c') hcl J.ok.glob hg hcode Ch hP trivial (by simp[codeAmong,rawInt]) hb fun ctv h' tk hk hsz=>?_
  refine fin h' tk c' ctv oc vc t _ #[] hPT (fun b o n e=>hk b o e) hsz (by rw[Array.append_empty];exact hk _ _ hP) (by simp) (hk _ _ (i4 J.hok hc)) hd hv (fun z=>?_) (.inr hc)
  rw[z,hPT] at hc;cases hc
theorem uc {last:Stmt}{env:Env}:∀rows:List Stmt,execs (rows++[last]) env=(execs rows env >>= fun f=>match f with
  | .next=>exec last env
  | f=>pure f)
 | []=>by
  show(exec last env >>= fun f=>match f with | .next=>pure .next | f=>pure f)=_
  refine NS ?_ (bind_pure _)
  congr 1
  grind
 | r::rows=>by
  show(exec r env >>= fun f=>match f with | .next=>execs (rows++[last]) env | f=>pure f)=((exec r env >>= fun f=>match f with | .next=>execs rows env | f=>pure f) >>= _)
  rw[bind_assoc]
  congr 1
  funext f
  cases f with
  | next=>exact uc rows
  | ret v=>rfl
  | brk=>rfl
  | cont=>rfl
def DC {CX:CXT}{P:NT}{w:Oe}{K:ND}{mg:Str->Option NI}{base:Heap}{k:Nat}{f:Addr}{name qual:Str}{params:Tz}{body rows:List Stmt}{last:Stmt}{scope:R0}{dV kV doc pm cdv ct oc:NI}{an od:Option Addr}
  {osl:Array (Option NI)} {N ps:List Str} {sp:Sp} (lk:K.lookup f=some ⟨oc,od,.func (OP name qual params body scope dV kV doc pm an cdv ct),osl⟩) (hcd:QP K cdv qual=true) (S:az N ps scope)
  (len:∀vs H Q E,sp vs H Q E->vs.length=ps.length) (hbd:body=rows++[last])
  (hbody:∀(A:Oa) (outer:List Env) (s:NM) (H:Hp) (vs:List V) (Q:VK) (E:XK),bG k (A.deeper (envOfC qual scope s.heap.objs.size f cdv))->sp vs H Q E →
   ∃t R,PSs (dW CX P w K mg base N qual scope f cdv A outer s H E) rows t/\t { nx:=R,rt:=fun _ _=>False } (start N vs) H/\∀σ H1 s1,Inv (dW CX P w K mg base N qual scope f cdv A outer s H E) [] σ H1 s1->R σ H1 →
    wpAny (model P w) (dW CX P w K mg base N qual scope f cdv A outer s H E).A (exec last (envOfC qual scope s.heap.objs.size f cdv)) (fun fl s2=>∃u,fl=.ret u/\CE outer P w H s Q u s2) (dW CX P w K mg base N qual scope f cdv A outer s H E).xe s1) :
  b9 P w K mg base CX (k+1) f (OP name qual params body scope dV kV doc pm an cdv ct) ps sp:=by
 subst hbd
 refine⟨len,fun A outer s H args us vs Q E hr e0 hb r hsp=>?_⟩
 have hl:=len _ _ _ _ hsp
 have KX:=e0.mod.kin.keeps fun b o e=>(e0.bs b o e).1
 have lim:=e0.mod.nolimit.keeps fun b o e=>(e0.bs b o e).1
 have hkind:∀y∈ps.zip us,scope.names.lookup y.1=some .local\/(scope.names.lookup y.1=some .cell/\((cellsFrom (s.heap.objs.size+1) scope.names []).lookup y.1).isSome=true):=fun⟨n,v⟩ hy=>by
  rcases S.par n (Qx hy).1 with q | q
  ·grind
  ·exact .inr ⟨q,PR _ _ _ (.inl q)⟩
 refine Qy hr.depth (KX _ _ lk) rfl S.co S.gen rfl (Sa KX hcd) (hb _ _ _ _ ?_)
 refine PX S.kind hkind fun env he s1 x=>?_
 subst he
 refine⟨lim.keeps x.toInCall.keep,SY ?_⟩
 obtain⟨t,R,ht,hq,hlast⟩:=hbody A outer s H vs Q E (hr.deeper _) hsp
 have I:Inv (dW CX P w K mg base N qual scope f cdv A outer s H E) [] (start N vs) H s1:=ko S hr.hd e0 hl r x
 rw[uc]
 refine N6 (gV (thn (ht [] s1 (start N vs) H _ I hq) fun fl s' hs=>?_)) (Q:=fun fl s2=>∃u,fl=Flow.ret u/\CE outer P w H s Q u s2) (fun fl s' hs=>?_) fun e s' hs=>hs
 ·cases fl with
  | next=>
   obtain⟨σ',H',J,q⟩:=hs
   exact hlast σ' H' s' J q
  | ret u=>obtain⟨_,_,_,_,_,q⟩:=hs;simp_all
  | brk=>obtain⟨_,_,_,q⟩:=hs;simp_all
  | cont=>obtain⟨_,_,_,q⟩:=hs;simp_all
 ·obtain⟨u,rfl,q⟩:=hs
  exact q
noncomputable def vz:List Nat->En->Option (List D)
 | [],_=>some []
 | i::r,e=>match (e[i]?:Option (Option D)),vz r e with
  | some (some d),some ds=>some (d::ds)
  | _,_=>none
noncomputable def Ey (n:Nat) (m:MS) (lf:Str) (ix:List Nat):MF:=fun ds h=>(m (ds.map some++N1 (n - ds.length) none) h).bind fun fl h1=>match fl with
 | .nx e=>(match vz ix e with
  | some cs=>.ok (.clo lf cs) h1
  | none=>.bad)
 | _=>.bad
theorem uT {K:ND}{g:GG}{α:List Addr}{H:Hp}{N:List Str}{σ:St}{e:En} (v:iu K g α H e σ):∀{ix:List Nat}{ys:List Str}{cs:List D},ix.map (fun i=>N[i]?)=ys.map some->vz ix e=some cs →
  ∃vs,Paired (fun y v=>∃i:Nat,N[i]?=some y/\σ[i]?=some (some v)) ys vs/\ao K g α H cs vs
 | [],[],_,_,h=>by cases h;exact⟨[],.nil,.nil⟩
 | [],_::_,_,e,_=>by cases e
 | _::_,[],_,e,_=>by cases e
 | i::ix,y::ys,cs,hi,h=>by
  simp only[NR,Ta] at hi
  unfold vz at h
  split at h
  ·rename_i d ds e1 e2
   cases h
   obtain⟨u,hu,ru⟩:=v.vars i d e1
   obtain⟨vs,p,r⟩:=uT v hi.2 e2
   exact⟨u::vs,.cons ⟨i,hi.1,hu⟩ p,.cons ru r⟩
  grind
noncomputable def mkU (K:ND):Bool:=(K.filterMap fun p=>jJ K p.1).all fun a=>(K.filterMap fun p=>jJ K p.1).all fun b=>!(Ua a.1 b.1) || decide (a.2=b.2)
def AB {K:ND} (h:K.lookup f=some o):∃p∈K,p.1=f:=by
 induction K with
 | nil=>cases h
 | cons q r ih=>
  grind
def sx {K:ND} (h:jJ K f=some q):q∈K.filterMap fun p=>jJ K p.1:=by
 cases e:K.lookup f with
 | none=>unfold jJ at h;simp_all
 | some o=>
  obtain⟨p,hp,e1⟩:=AB e
  grind
def Ja {K:ND} (u:mkU K=true) (h:jJ K f=some q) (h':jJ K f'=some q') (e:q'.1=q.1):q'.2=q.2:=by
 have:=NZ.mp (NZ.mp u q' (sx h')) q (sx h)
 simp_all
structure Mkr (K) (mg) (base:Heap) (fd:P_) (c PT):Prop where
 code:fd.code=.ref c
 hd:Pj K c PT=true
 bat:base.BuiltinsAt mg PT
 ne:mainGlobals≠PT
 uq:mkU K=true
def Fx {K:ND}{c PT:Addr} (e:Pj K c PT=true):∃k d vs s,K.lookup c=some ⟨k,d,.fields vs,s⟩/\vs[11]?=some (.ref PT):=by
 unfold Pj at e
 grind
def Fo {K:ND}{f c PT:Addr} (lk:K.lookup f=some ⟨oc,od,.func fd,osl⟩) (hc:fd.code=.ref c) (C:Pj K c PT=true) (hm:E9 fd=some pos) :
  jJ K f=some (PT,pos,fd.qualname++".<locals>." ++ "<lambda>"):=by
 obtain⟨k,d,vs,s,e,e11⟩:=Fx C
 unfold jJ
 simp_all
section
variable {P:NT}{w:Oe}{K:ND}{mg:Str->Option NI}{base:Heap}{g:GG}
def KZ {st:Stmt}{c PT:Addr} (F:Fun K x x st f fd) (S:az N ps (ag st)) (M:Mkr K mg base fd c PT)
  (hbd:aP st=rows++[.Return (some (.Lambda params body scope pos)) rpos]) (hdef:∀env,defaultsOf params env=([],[]))
  (hcl:∀L cdv , ∃clos,closureFor scope (envOfC x (ag st) L f cdv)=pure clos/\(∀z c,clos.lookup z=some c->(envOfC x (ag st) L f cdv).cells.lookup z=some c)/\∀z∈ys,∃c,clos.lookup z=some c)
  (hys:∀z∈ys,(ag st).names.lookup z=some .cell) (hix:ix.map (fun i=>N[i]?)=ys.map some) (T:sY lf y (x++".<locals>." ++ "<lambda>") ys params body scope)
  (hb:∀cdv A outer s H E , bG k (A.deeper (envOfC x (ag st) s.heap.objs.size f cdv)) →
   PSs (dW CX0 P w K mg base N x (ag st) f cdv A outer s H E).nox rows (tMS K g E00 mb)):b9 P w K mg base CX0 (k+1) f fd ps (spM K g ps.length (Ey N.length mb lf ix)):=by
 obtain⟨oc,od,kV,doc,pm,an,cdv,ct,osl,rfl,lk,hcd⟩:=F.ex
 have hmk:E9 (OP x x (cf st) (aP st) (ag st) .none kV doc pm an cdv ct)=some pos:=by
  unfold E9 OP
  simp_all
 have hT:=Fo lk M.code M.hd hmk
 obtain rfl:cdv=.ref c:=M.code
 refine DC lk hcd S (fun vs H Q E h=>h.1) hbd fun A outer s H vs Q E hr hsp=>?_
 obtain⟨hl,α,ds,h,rs,hh,w1⟩:=hsp
 refine⟨_,fun σ H1=>∃α1 e h1 cs,Ext K α H α1 H1/\cM K g α1 H1 e σ h1/\vz ix e=some cs/\aB K g α H Q (.clo lf cs) h1,(hb (.ref c) A outer s H E hr).nox,?_,fun σ H1 s1 J hR=>?_⟩
 ·refine tMS.use ⟨hh,ir rs⟩ w1.bind fun fl h' H' α' e r kk=>?_
  cases fl with
  | nx e'=>
   intro σ' s'
   dsimp only at kk
   cases ec:vz ix e' with
   | none=>rw[ec] at kk;exact kk.elim
   | some cs=>rw[ec] at kk;exact⟨α',e',h',cs,e,s',ec,kk⟩
  | bk e'=>exact kk.elim
  | ct e'=>exact kk.elim
  | rt d=>exact kk.elim
 ·obtain⟨α1,e,h1,cs,ex,sr,ec,po⟩:=hR
  obtain⟨clos,hc1,hc2,hc3⟩:=hcl s.heap.objs.size (.ref c)
  obtain⟨vs',pv,rds⟩:=uT sr.vs hix ec
  have pv2:Paired (fun z v=>(∃c,clos.lookup z=some c)/\(ag st).names.lookup z=some .cell/\∃i:Nat,N[i]?=some z/\σ[i]?=some (some v)) ys vs':=by
   clear ec rds hix T hcl
   induction pv with
   | nil=>exact .nil
   | cons q t ih=>exact .cons ⟨hc3 _ (NO ..),hys _ (NO ..),q⟩ (ih (fun z hz=>hys z (NH _ hz)) (fun z hz=>hc3 z (NH _ hz)))
  refine wpAny_Return_some (thn (B5 J rfl (hdef _) rfl rfl M.hd M.bat M.ne hT (fun f' q e1 e2=>Ja M.uq hT e1 e2) hc1 hc2 (fun _=>rfl) T sr.heap pv2 rds) fun u s2 md=>?_)
  obtain⟨p,H2,rfl,os,gn,hok,un,ex2,hr2,rd,_,_⟩:=md
  exact⟨_,rfl,.ref p,H2,os.trans J.os,by rw[gn];exact J.bare,un,hok,rfl,po _ H2 α1 (ex.trans ex2) hr2 rd⟩
end
noncomputable def gw (ts:List Addr) (Hs:Hp):Hp:=fun b=>if b∈ts then some (.tbl #[]) else Hs b
def y_ {P:NT}{w:Oe}{K:ND}{mg mb:Str->Option NI}{k:Nat}{fa a:Addr}{fd:P_}{x:Str}{sp:Sp}{s₁:NM}{vs:List NI}{ns:List Int}{ts:List Addr}
  (KX:K.In s₁.heap) (hns:s₁.heap.Ns mainGlobals mg) (hb:s₁.heap.Ns builtinsNs mb) (hbb:∀x:Str,x≠"__name__" -> mb x=bootBuiltins x) (hlim:s₁.heap.NoLimit) (hg:s₁.gens = #[])
  (hbm:∃bm ob,mg "__builtins__" = some (.ref bm)/\bm≠builtinsNs/\s₁.heap.get? bm=some ob/\ob.cls=.type "module" /\ ob.dict=some builtinsNs/\ob.data=.plain)
  (hts:∀P∈ts,s₁.heap.get? P=some (QR #[])) (hct:∀P∈ts,∃c,PySem.W.CodeHd s₁.heap c P) (hKt:∀P∈ts,K.lookup P=none)
  (ha:s₁.heap.get? a=some { cls:=.type "list", data:=.seq vs.toArray }) (hi:IntsAre vs ns) (hl:ns.length<=sizeLine) (hr:bG k callerA)
  (F:∀base:Heap,K.In base->base.Ns mainGlobals mg->(∀P∈ts,base.BuiltinsAt mg P)->b9 P w K mg base CX0 k fa fd [x] sp) (hbind:∀(s:NM) (u:NI),TR s fd ⟨[u],[]⟩ [(x,u)])
  (hsp:∀H:Hp,(∀P∈ts,H P=some (.tbl #[]))->Fro K H a (ns.map V.int)->sp [.ref a] H (fun v _=>v=.bl true) fun _ _ _=>False) :
  codeAny (model P w) callerA (.call (.ref fa) ⟨[.ref a],[]⟩) (fun r s'=>r=.ok (.ret (.bool true))/\OldK s₁.heap s'.heap/\s'.os=s₁.os/\SE s'.gens) s₁:=by
 have rv:=qb hi
 have lenV:=hi.length
 have aT:a∉ts:=fun z=>by simp_all
 have core:∀Hs:Hp,MY Hs->Fro K (gw ts Hs) a (ns.map V.int)->HOk P w Hs s₁.heap->(∀b,Hs b≠none->b=a)->(Hs a≠none->K.lookup a=none) →
   codeAny (model P w) callerA (.call (.ref fa) ⟨[.ref a],[]⟩) (fun r s'=>r=.ok (.ret (.bool true))/\OldK s₁.heap s'.heap/\s'.os=s₁.os/\SE s'.gens) s₁:=by
  intro Hs hO hS hok0 hA hK
  have inT:∀{b:Addr},b∈ts->gw ts Hs b=some (.tbl #[]):=fun h=>by unfold gw;simp_all
  have offT:∀{b:Addr},b∉ts->gw ts Hs b=Hs b:=fun h=>by unfold gw;simp_all
  have hok:HOk P w (gw ts Hs) s₁.heap:=fun b u e=>by
   by_cases hb:b∈ts
   ·rw[inT hb] at e;cases e;exact hts b hb
   ·rw[offT hb] at e
    refine(hok0 b u e).iy (fun _ _ _ z=>z) (fun c z=>?_) fun c xs z=>?_
    ·grind
    grind
  have non:∀{b:Addr} {o:Obj},s₁.heap.get? b=some o->(∀a n,o.data≠.seq a n)->(∀a,o.data≠.fields a)->gw ts Hs b=none:=fun{b o} e d1 d2=>by
   by_cases hb:b∈ts
   ·grind
   grind
  have base_of:∀{b:Addr} {o:Obj},s₁.heap.get? b=some o->gw ts Hs b=none->(ph s₁.heap (gw ts Hs)).get? b=some o:=fun e n=>AY e n
  have nsK:∀{b:Addr} {m:Str->Option NI},s₁.heap.Ns b m->(ph s₁.heap (gw ts Hs)).Ns b m:=fun{b m} ⟨o,es,ep,e,d,r⟩=>⟨o,es,ep,base_of e (non e (fun _ _ z=>by rw[d] at z;cases z) fun _ z=>by rw[d] at z;cases z),d,r⟩
  have hKb:K.In (ph s₁.heap (gw ts Hs)):=fun b o e=>base_of (KX b o e) (by
   grind)
  have hM:Mod K mg (ph s₁.heap (gw ts Hs)):=⟨hKb,nsK hns,⟨mb,nsK hb,hbb⟩,let ⟨mc,h1,h2⟩:=hlim;⟨mc,nsK h1,h2⟩⟩
  have hBA:∀P∈ts,(ph s₁.heap (gw ts Hs)).BuiltinsAt mg P:=fun PT hP=>by
   obtain⟨bm,ob,b1,b2,b3,b4,b5,b6⟩:=hbm
   refine⟨bm,ob,b1,b2,fun z=>?_,fun z=>?_,base_of b3 (non b3 (fun _ _ z=>by rw[b6] at z;cases z) fun _ z=>by rw[b6] at z;cases z),b4,b5,b6⟩
   ·obtain⟨o,es,ep,e,d,_⟩:=hns
    rw[<- z,b3] at e;cases e;rw[b6] at d;cases d
   grind
  have e0:vE P w K mg (ph s₁.heap (gw ts Hs)) callerA [] s₁ (gw ts Hs):=⟨rfl,hM,fun b o e=>Fv e,Nat.le_of_eq (Ag _ _),trivial,fun b hb=>absurd (show b∈([]:List Addr) from hb) (by simp),hok,.of_eq hg⟩
  refine PF ((F _ hKb (nsK hns) hBA).run callerA [] s₁ (gw ts Hs) ⟨[.ref a],[]⟩ [.ref a] [.ref a] _ _ hr e0 (hbind s₁ (.ref a)) (.cons rfl .nil) (hsp _ (fun P hP=>inT hP) hS)) fun r s' h=>?_
  cases r with
  | error e=>exact h.elim
  | ok fl=>
   cases fl with
   | next=>exact QE h
   | brk=>exact QE h
   | cont=>exact QE h
   | ret u=>
    obtain⟨v,H',os,bare,un,hok',r',q⟩:=h
    have q':v=.bl true:=q
    subst q'
    obtain rfl:u=RY true:=r'
    have old:∀b o,s₁.heap.get? b=some o->b∉ts->s'.heap.get? b=some o:=fun b o e hb=>by
     cases q:gw ts Hs b with
     | none=>exact un.keep b o e q (by intro z;exact absurd (show b∈([]:List Addr) from z) (by simp)) (by simp)
     | some u=>
      rw[offT hb] at q
      rcases hO b with z | ⟨ob,xs,z⟩
      ·rw[q] at z;cases z
      ·have z2:=un.jA b ob _ ((offT hb).trans z)
       obtain⟨e1,_⟩:=hok0 b _ z
       obtain⟨e2,_⟩:=hok' b _ z2
       grind
    have grown:∀b∈ts,∃ps,s'.heap.get? b=some (QR ps):=fun b hb=>by
     obtain⟨more,e1⟩:=un.lM b _ (inT hb)
     exact⟨_,hok' b _ e1⟩
    refine⟨rfl,⟨fun b o e=>?_,fun b o e=>?_⟩,os,bare⟩
    ·by_cases hb:b∈ts
     ·obtain⟨ps,e1⟩:=grown b hb
      obtain⟨c,C⟩:=hct b hb
      have e2:=hts b hb
      rw[e] at e2;cases e2
      exact .inr (.inl ⟨(C.tab (hts b hb)).isCodeTable,rfl,#[],ps,rfl,by rw[e1];simp⟩)
     ·exact .inl (old b o e hb)
    ·by_cases hb:b∈ts
     ·obtain⟨ps,e1⟩:=grown b hb;exact⟨_,e1⟩
     ·exact⟨o,old b o e hb⟩
 cases hk:K.lookup a with
 | some o=>
  have e:=KX a o hk
  rw[ha] at e
  cases e
  refine core (fun _=>none) (fun _=>.inl rfl) (.inr ⟨_,vs.toArray,_,hk,rfl,rfl,rfl,by simp_all,by omega⟩) (fun b u z=>by have z':(none:Option HO)=some u:=z;cases z') (fun b z=>absurd rfl z) fun z=>absurd rfl z
 | none=>
  refine core (fun b=>if b=a then some (.frz { cls:=.type "list", data:=.seq vs.toArray } (.lst (ns.map V.int))) else none) (fun b=>?_) (.inl ⟨{ cls:=.type "list", data:=.seq vs.toArray },?_⟩) (fun b u z=>?_) (fun b z=>?_) fun _=>hk
  ·by_cases hb:b=a
   ·exact .inr ⟨_,_,if_pos hb⟩
   ·exact .inl (if_neg hb)
  ·unfold gw;rw[if_neg aT];exact if_pos rfl
  ·by_cases hb:b=a
   ·have z':=(if_pos hb).symm.trans z
    cases z'
    subst hb
    exact⟨ha,by rw[NY];exact hl,vs,_,rv,ha⟩
   ·have z':=(if_neg hb).symm.trans z
    cases z'
  ·by_cases hb:b=a
   ·exact hb
   ·exact absurd (if_neg hb) z
noncomputable def tabOf (K:ND) (c:Addr):Addr:=match K.lookup c with
 | some ⟨_,_,.fields vs,_⟩=>(match (vs[11]?:Option NI) with | some (.ref P)=>P | _=>0)
 | _=>0
noncomputable def Gj (K:ND) (ts:List Addr):Bool:=(K.filterMap fun p=>jJ K p.1).all (fun q=>ts.any (Ua q.1))&&ts.all fun P=>(K.lookup P).isNone&&K.any fun p=>match p.2.data with
 | .func fd=>(match fd.code with
  | .ref c=>Pj K c P
  | _=>false)
 | _=>false
def HY (K:ND) (ts:List Addr) (x:Str) (st:Stmt):Prop:=∃f fd c,Oz K mainGlobals x=some (some (.ref f))/\Fun K x x st f fd/\fd.code=.ref c/\Pj K c (tabOf K c)=true/\ts.any (Ua (tabOf K c))=true/\Ua mainGlobals (tabOf K c)=false
def Ds (K:ND) (mg:Str->Option NI) (base:Heap) (x:Str) (st:Stmt):Prop:=∀f fd,mg x=some (.ref f)->Fun K x x st f fd->∃c PT,Mkr K mg base fd c PT
def J0 {K:ND}{st:Stmt}{kV doc pm ct:NI} (a:Oz K mainGlobals x=some (some (.ref f)))
  (l:K.lookup f=some ⟨oc,od,.func (OP x x (cf st) (aP st) (ag st) .none kV doc pm an (.ref c) ct),osl⟩) (cc:QP K (.ref c) x=true) (k:Om K (.ref f)=true)
  (h1:Pj K c (tabOf K c)=true) (h2:ts.any (Ua (tabOf K c))=true) (h3:Ua mainGlobals (tabOf K c)=false):HY K ts x st:=⟨f,_,c,a,vm l cc k,rfl,h1,h2,h3⟩
def Ds.of {K:ND}{st:Stmt} (X:K.In h) (G:h.Ns mainGlobals mg) (hB:∀P∈ts,base.BuiltinsAt mg P) (hU:mkU K=true) (m:HY K ts x st):Ds K mg base x st:=by
 intro f fd hm F
 obtain⟨f2,fd2,c,a,F2,hc,h1,h2,h3⟩:=m
 have hm2:=R_ X G a
 rw[hm] at hm2
 cases hm2
 obtain⟨oc,od,osl,l1⟩:=c6 F
 obtain⟨oc',od',osl',l2⟩:=c6 F2
 rw[l1] at l2
 cases l2
 obtain⟨P,hP,e⟩:=SS.mp h2
 have e:=Nat.eq_of_beq_eq_true e
 refine⟨c,tabOf K c,hc,h1,hB _ (by simp_all),fun z=>?_,hU⟩
 simp_all
def D5 {k:Nat}{m:MF}{l:PySem.W.OpenLaw}{q:NT}{loose:List Str}{XP:(Str->Option NI)->Heap->Prop}{YP:Oe->Heap->Prop}{d:DefRec}{K:Params->ND}{ts:List Addr} (hn:l.most=some 63) (hdf:d.params.defaults=[]) (hr:bG k callerA)
  (hY:∀(w:Oe) (h:Heap),YP w h->(K w.params).In h) (hT:∀(w:Oe) (h:Heap),YP w h->∀P∈ts,h.get? P=some (QR #[])) (hI:∀P,Gj (K P) ts=true)
  (ok:∀ns:List Int,ns.length<=63->∃h,m [.scr (ns.map D.int)] []=.ok (.bl true) h)
  (F:∀(w:Oe) (mg:Str->Option NI) (fa:Addr) (h:Heap),(K w.params).In h->h.Ns mainGlobals mg->mg d.name=some (.ref fa) →
   ∃fd:P_,(∀(s:NM) (u:NI),TR s fd ⟨[u],[]⟩ [("_law_script", u)])/\∀base:Heap,(K w.params).In base->base.Ns mainGlobals mg->(∀P∈ts,base.BuiltinsAt mg P)->b9 l.prog w (K w.params) mg base CX0 k fa fd ["_law_script"] (spM (K w.params) (gOf mg) 1 m)) :
  PySem.W.WalkO q loose XP YP l.row.toRowW d [] (fun f vs=>Uh f vs):=by
 refine Att.uX hn hdf fun w ax s₁ mg mb fa o pm cd doc a vs ns G Y ho hd hcd hmg hobj hints hlen hg=>?_
 have KX:=hY w _ Y
 obtain⟨fd,hb,hF⟩:=F w mg fa _ KX G.T.g hmg
 have i:=hI w.params
 unfold Gj at i
 obtain⟨i1,i2⟩:=Bool.and_eq_true_iff.mp i
 have tq:∀P∈ts,∃c,(K w.params).lookup P=none/\Pj (K w.params) c P=true:=fun P hP=>by
  have z:=Bool.and_eq_true_iff.mp (NZ.mp i2 P hP)
  obtain⟨p,_,y⟩:=SS.mp z.2
  split at y
  ·split at y
   ·rename_i c _;exact⟨c,by simpa using z.1,y⟩
   grind
  grind
 refine y_ (sp:=fun vs H Q _=>∃a ns,vs=[V.ref a]/\ns.length<=63/\(∀P∈ts,H P=some (.tbl #[]))/\Fro (K w.params) H a (ns.map V.int)/\∀v H',v=V.bl true->Q v H') KX G.T.g G.T.b G.T.builtins G.T.nolimit hg G.T.bmain (hT w _ Y) (fun P hP=>let ⟨c,_,e⟩:=tq P hP;⟨c,PySem.W.codeHd_of_K KX e⟩) (fun P hP=>let ⟨_,e,_⟩:=tq P hP;e) hobj hints (N4 hlen (by decide)) hr
  (fun base kb nb bb=>(hF base kb nb bb).imp fun vs H Q E z=>?_) hb (fun H h1 h2=>⟨a,ns,rfl,hlen,h1,h2,fun _ _ z=>z⟩)
 obtain⟨a,ns,rfl,hl,hO,hS,hQ⟩:=z
 obtain⟨hh,e⟩:=ok ns hl
 refine⟨rfl,[],[.scr (ns.map D.int)],[],.cons (.scr hS (ao.ints ns)) .nil,⟨rfl,fun n m p z=>by simp at z,fun n p o z=>by simp at z,fun f q e=>.inl (hO _ ?_)⟩,?_⟩
 ·obtain⟨p,hp,z⟩:=SS.mp (NZ.mp i1 q (sx e))
  simp_all
 ·rw[e]
  intro v H' α' _ _ rd
  cases rd
  simp_all
noncomputable def gA (cells:List (Str × Addr)):List (Str × PQ)->List (Str × Addr)->List (Str × Addr)
 | [],cs=>cs
 | (n,k)::r,cs=>gA cells r (if k == .free then (n,(cells.lookup n).getD 0)::cs else cs)
theorem xU {env:Env}:∀(ns:List (Str × PQ)) (cs:List (Str × Addr)),(∀q∈ns,q.2=.free->(env.cells.lookup q.1).isSome=true) →
  (forIn ns cs fun(x:Str × PQ) (r:List (Str × Addr))=>match x with
   | (name,kind)=>if (kind == .free)=true then do let c ← cellOf env name;pure (PM ((name,c)::r)) else pure (PM r):Sem (List (Str × Addr)))=pure (gA env.cells ns cs)
 | [],cs,_=>by rfl
 | (n,k)::r,cs,h=>by
  rw[List.forIn_cons]
  have ih:=fun cs=>xU r cs fun q hq=>h q (NH _ hq)
  by_cases hk:(k == .free)=true
  ·obtain⟨c,hc⟩:=Qd.mp (h (n,k) (NO ..) (beq_iff_eq.mp hk))
   simp only[hk,gA,hc,cellOf]
   exact ih _
  ·simp only[Bool.not_eq_true] at hk
   simp only[hk,gA]
   grind
def E7 (h:∀q∈scope.names,q.2=.free->(env.cells.lookup q.1).isSome=true):closureFor scope env=pure (gA env.cells scope.names []):=by
 exact(congrArg (fun m:Sem (List (Str × Addr))=>m >>= fun s=>pure s) (xU scope.names [] h)).trans (pure_bind _ _)
theorem uJ {cells:List (Str × Addr)}{z:Str}{c:Addr}:∀(ns:List (Str × PQ)) (cs:List (Str × Addr)),(∀q∈ns,q.2=.free->(cells.lookup q.1).isSome=true)->(∀z c,cs.lookup z=some c->cells.lookup z=some c)->(gA cells ns cs).lookup z=some c->cells.lookup z=some c
 | [],cs,_,h,e=>h z c e
 | (n,k)::r,cs,hf,h,e=>by
  refine uJ r _ (fun q hq=>hf q (NH _ hq)) (fun z c=>?_) e
  split
  ·rename_i hk
   rw[List.lookup_cons]
   split
   ·rename_i hz
    intro q
    cases q
    obtain⟨c,hc⟩:=Qd.mp (hf (n,k) (NO ..) (beq_iff_eq.mp hk))
    simp_all
   simp_all
  simp_all
theorem pR {cells:List (Str × Addr)}{z:Str}:∀(ns:List (Str × PQ)) (cs:List (Str × Addr)),(∃c,cs.lookup z=some c)->∃c,(gA cells ns cs).lookup z=some c
 | [],cs,h=>h
 | (n,k)::r,cs,h=>by
  refine pR r _ ?_
  grind
theorem vd {cells:List (Str × Addr)}{z:Str}:∀(ns:List (Str × PQ)) (cs:List (Str × Addr)),(z,QG)∈ns->∃c,(gA cells ns cs).lookup z=some c
 | (n,k)::r,cs,h=>by
  rcases NV.mp h with e | e
  ·cases e
   refine pR r _ ?_
   simp
  ·exact vd r _ e
section
variable {P:NT}{w:Oe}{K:ND}{mg:Str->Option NI}{base:Heap}{g:GG}
def HR {x:Str}{st:Stmt}{f:Addr}{fd:P_}{N ps:List Str}{k:Nat}{mb:MS} (rows:List Stmt){params:Tz}{body:Expr}{scope:R0}{pos rpos:Pos} (lf y:Str) (ys:List Str) (ix:List Nat){c PT:Addr} (F:Fun K x x st f fd) (S:az N ps (ag st)) (M:Mkr K mg base fd c PT)
  (hbd:aP st=rows++[.Return (some (.Lambda params body scope pos)) rpos]) (hdef:∀env,defaultsOf params env=([],[]))
  (hfr:∀q∈scope.names,q.2=.free->(ag st).names.lookup q.1=some .cell) (hyf:∀z∈ys,(z,QG)∈scope.names)
  (hix:ix.map (fun i=>N[i]?)=ys.map some) (T:sY lf y (x++".<locals>." ++ "<lambda>") ys params body scope)
  (hb:∀(cdv:NI) (A:Oa) (outer:List Env) (s:NM) (H:Hp) (E:XK),bG k (A.deeper (envOfC x (ag st) s.heap.objs.size f cdv)) →
   PSs (dW CX0 P w K mg base N x (ag st) f cdv A outer s H E).nox rows (tMS K g E00 mb)):b9 P w K mg base CX0 (k+1) f fd ps (spM K g ps.length (Ey N.length mb lf ix)):=by
 refine KZ F S M hbd hdef (fun L cdv=>?_) (fun z hz=>hfr (z,.free) (hyf z hz) rfl) hix T hb
 have hs:∀q∈scope.names,q.2=.free->((envOfC x (ag st) L f cdv).cells.lookup q.1).isSome=true:=fun q hq e=>PR _ _ _ (.inl (hfr q hq e))
 exact⟨_,E7 hs,fun z c e=>uJ scope.names [] hs (fun _ _ z=>nomatch z) e,fun z hz=>vd scope.names [] (hyf z hz)⟩
end
end L2.FE
namespace L2.FE
open PySem
section
variable {β γ:Type}{h h1:Hh}{env:En}
@[simp] theorem cP {f:β->Hh->R γ}:(R.ok b h).bind f=f b h:=NS rfl rfl
@[simp] theorem BM {f:β->Hh->R γ}:(R.err x h).bind f=.err x h:=NS rfl rfl
@[simp] theorem Ll:(R.bad).bind f=.bad:=NS rfl rfl
@[simp] theorem Jt [Decidable c]{a b:R β}{f:β->Hh->R γ}:(if c then a else b).bind f=if c then a.bind f else b.bind f:=by split<;>rfl
@[simp] theorem e_C:cC d env h=.ok d h:=NS rfl rfl
@[simp] theorem Mu {r:En}:af 0 (some d::r) h=.ok d h:=NS rfl rfl
@[simp] theorem L4 {r:En}:af (i+1) (x::r) h=af i r h:=NS rfl rfl
@[simp] theorem Nc:av f a b env h=(a env h).bind fun x h1=>(b env h1).bind fun y h2=>f x y h2:=NS rfl rfl
@[simp] theorem Nx:cUn f a env h=(a env h).bind fun x h1=>f x h1:=NS rfl rfl
@[simp] theorem M_:ak env h=.ok [] h:=NS rfl rfl
@[simp] theorem Md:aa a r env h=(a env h).bind fun x h1=>(r env h1).bind fun xs h2=>.ok (x::xs) h2:=NS rfl rfl
@[simp] theorem LW:ah f a env h=(a env h).bind f:=NS rfl rfl
@[simp] theorem Lq:dZ f o a env h=(o env h).bind fun x h1=>if isL x h1=true then (a env h1).bind fun xs h2=>f x xs h2 else .bad:=NS rfl rfl
@[simp] theorem LR:aJ f a env h=(a env h).bind f:=NS rfl rfl
@[simp] theorem MM:iF a env h=(a env h).bind fun b h1=>.ok (!b) h1:=NS rfl rfl
@[simp] theorem Mq:Br a b env h=(a env h).bind fun x h1=>if x=true then b env h1 else .ok false h1:=NS rfl rfl
@[simp] theorem M1:qN a b env h=(a env h).bind fun x h1=>if x=true then .ok true h1 else b env h1:=NS rfl rfl
@[simp] theorem NC:cIf c a b env h=(c env h).bind fun x h1=>if x=true then a env h1 else b env h1:=NS rfl rfl
@[simp] theorem M8:asB (.bl b) h=.ok b h:=NS rfl rfl
@[simp] theorem L_:ye a b env h=(a env h).bind fun x h1=>(asB x h1).bind fun k h2=>if k=true then b env h2 else .ok (.bl false) h2:=NS rfl rfl
@[simp] theorem Lx:kC f f' a b c env h=(a env h).bind fun x h1=>(b env h1).bind fun y h2=>(f x y h2).bind fun z h3=>(asB z h3).bind fun k h4=>if k=true then (c env h4).bind fun w h5=>f' y w h5 else .ok (.bl false) h4:=NS rfl rfl
noncomputable def FN:D->Hh->R (Option Int):=fun d h1=>match d with
 | .int i=>.ok (some i) h1
 | _=>.bad
@[simp] theorem Lz:FN (.int i) h=.ok (some i) h:=NS rfl rfl
@[simp] theorem MG:pU a env h=(a env h).bind FN:=NS rfl rfl
@[simp] theorem Lu:rL nl a l u env h=(a env h).bind fun x h1=>(l env h1).bind fun lo h2=>(u env h2).bind fun hi h3=>Fe nl x lo hi h3:=NS rfl rfl
@[simp] theorem L6:cF env h=.ok (.nx env) h:=NS rfl rfl
noncomputable def HN (b:MS):Fl->Hh->R Fl:=fun fl h1=>match fl with
 | .nx e=>b e h1
 | fl=>.ok fl h1
@[simp] theorem NB:HN b (.nx e) h=b e h:=NS rfl rfl
@[simp] theorem NA:HN b (.rt d) h=.ok (.rt d) h:=NS rfl rfl
@[simp] theorem Nm:aH a b env h=(a env h).bind (HN b):=by
 rfl
@[simp] theorem LX:eB a env h=(a env h).bind fun _ h1=>.ok (.nx env) h1:=NS rfl rfl
@[simp] theorem Nb:a9 a env h=(a env h).bind fun d h1=>.ok (.rt d) h1:=NS rfl rfl
@[simp] theorem M7:eV c a b env h=(c env h).bind fun x h1=>if x=true then a env h1 else b env h1:=NS rfl rfl
@[simp] theorem Nv:aW i a env h=(a env h).bind fun d h1=>.ok (.nx (env.set i (some d))) h1:=NS rfl rfl
@[simp] theorem GZ:gN i d env h=.ok (env.set i (some d)) h:=NS rfl rfl
@[simp] theorem MZ:gT2 i j (.tup [x,y]) env h=.ok ((env.set i (some x)).set j (some y)) h:=NS rfl rfl
@[simp] theorem Lo:i3 f o i v env h=(v env h).bind fun x h1=>(o env h1).bind fun y h2=>(i env h2).bind fun z h3=>(f y z x h3).bind fun _ h4=>.ok (.nx env) h4:=NS rfl rfl
@[simp] theorem Ln:qP o i v env h=(o env h).bind fun x h1=>(i env h1).bind fun y h2=>(CY x y h2).bind fun z h3=>(v env h3).bind fun u h4=>(yu z u h4).bind fun t h5=>(f_ x y t h5).bind fun _ h6=>.ok (.nx env) h6:=NS rfl rfl
noncomputable def ID:Fl->Hh->R D:=fun fl h1=>match fl with
 | .rt d=>.ok d h1
 | .nx _=>.ok .non h1
 | _=>.bad
@[simp] theorem Nz:ID (.rt d) h=.ok d h:=NS rfl rfl
@[simp] theorem Ny:ID (.nx e) h=.ok .non h:=NS rfl rfl
def bj:bF n m ds h=(m (ds.map some++N1 (n - ds.length) none) h).bind ID:=by
 rfl
section
variable {nl:NL}
@[simp] theorem LM:bY nl (.int i) (.int j) h=.ok (.int (i+j)) h:=NS rfl rfl
@[simp] theorem Ls:yu (.int i) (.int j) h=.ok (.int (i+j)) h:=NS rfl rfl
@[simp] theorem ML:kh (.int i) (.int j) h=.ok (.int (i - j)) h:=NS rfl rfl
@[simp] theorem L8:vf (.int i) h=.ok (.int (-i)) h:=NS rfl rfl
@[simp] theorem Nr:dLt (.int i) (.int j) h=.ok (.bl (decide (i<j))) h:=by unfold dLt;rw[nR];rfl
@[simp] theorem Nd:dLe (.int i) (.int j) h=.ok (.bl (decide (i<=j))) h:=by unfold dLe;rw[rW];rfl
@[simp] theorem Nh:dGt (.int i) (.int j) h=.ok (.bl (decide (j<i))) h:=by unfold dGt;rw[nR];rfl
@[simp] theorem M3:dGe (.int i) (.int j) h=.ok (.bl (decide (j<=i))) h:=by unfold dGe;rw[rW];rfl
@[simp] theorem Mo:sJ nl (.int i) (.int j) h=if sml i=true/\sml j=true then .ok (.int (i*j)) h else .bad:=NS rfl rfl
@[simp] theorem LY:DA (.int i) (.int j) h=if 0<j/\sml j=true then .ok (.int (i / j)) h else .bad:=NS rfl rfl
@[simp] theorem Mf:wx (.int i) (.int j) h=if 0<j then .ok (.int (i % j)) h else .bad:=NS rfl rfl
@[simp] theorem MN:G3 (.int i) (.int j) h=if 0<=j/\j.natAbs<=1000/\sml i=true then .ok (.int (i ^ j.toNat)) h else .bad:=NS rfl rfl
@[simp] theorem LG:Az [.int i,.int j] h=.ok (.int (max i j)) h:=by
 have:(if j > i then j else i)=max i j:=by split<;>omega
 rw[<- this];rfl
@[simp] theorem LV:Dd [.bl b] h=.ok (.int (if b then 1 else 0)) h:=NS rfl rfl
@[simp] theorem Nt:cn ds h=if ds.length<=1000000 then .ok (.tup ds) h else .bad:=NS rfl rfl
@[simp] theorem Ni:dw nl ds h=if ds.length<=1000000 then nl ds h else .bad:=NS rfl rfl
@[simp] theorem LI:jW ds h=.ok (.ref h.length) (h++[.lst ds]):=NS rfl rfl
@[simp] theorem Mi:aI ds h=.ok (.frl ds) h:=NS rfl rfl
@[simp] theorem MB:cU [.tup ds] h=.ok (.int ds.length) h:=NS rfl rfl
@[simp] theorem MV:cU [.frl ds] h=.ok (.int ds.length) h:=NS rfl rfl
@[simp] theorem MU:cU [.scr ds] h=.ok (.int ds.length) h:=NS rfl rfl
noncomputable def ixK (ds:List D) (i:Int) (h:Hh):R D:=match atI ds i with
 | some d=>.ok d h
 | none=>.bad
@[simp] theorem FU:dIx (.tup ds) (.int i) h=ixK ds i h:=NS rfl rfl
@[simp] theorem M5:dIx (.frl ds) (.int i) h=ixK ds i h:=NS rfl rfl
@[simp] theorem M9:dIx (.scr ds) (.int i) h=ixK ds i h:=NS rfl rfl
def n5 (e:aq h n=some ds):dIx (.ref n) (.int i) h=ixK ds i h:=by
 have z:e9 (.ref n) h=some ds:=e
 delta dIx;rw[z];rfl
def II {ds:List D}{i:Int}{d:D} (e:atI ds i=some d):ixK ds i h=.ok d h:=by simp only[ixK,e]
def Ar {j:Nat}{v:β} (h:xs[j]?=some v) (e:i=(j:Int)):atI xs i=some v:=by rw[e];exact E5 h
def jb {j:Nat} (e:i=(j:Int)) (e2:ds[j]?=some d):ixK ds i h=.ok d h:=II (Ar e2 e)
noncomputable def gI (ns:List Int) (i:Nat):Int:=ns.getD i 0
def dg (hj):gI ns j=ns[j]:=by
 unfold gI;simp_all
def Ck (hj:j<ns.length):gI ns j∈ns:=by rw[dg hj];simp
def jr {j:Nat} (e:i=(j:Int)) (hj:j<ns.length):ixK (ns.map D.int) i h=.ok (.int (gI ns j)) h:=by
 refine jb e ?_
 rw[Oh,N0 hj,dg hj];rfl
@[simp] theorem Np:ixK (d::ds) 0 h=.ok d h:=jb rfl rfl
@[simp] theorem M4:ixK (d::d1::ds) 1 h=.ok d1 h:=jb rfl rfl
@[simp] theorem Mt:Fe nl (.scr ds) lo hi h=nl (cutD ds lo hi) h:=NS rfl rfl
@[simp] theorem MR:bY nl (.tup a) (.tup b) h=if a.length+b.length<=1000000 then .ok (.tup (a++b)) h else .bad:=NS rfl rfl
@[simp] theorem Mp:bY nl (.frl a) (.frl b) h=if a.length+b.length<=1000000 then nl (a++b) h else .bad:=NS rfl rfl
@[simp] theorem MD:sJ nl (.frl a) (.int k) h=if k.natAbs<=1000000/\a.length*k.toNat<=1000000 then nl (N1 k.toNat a).flatten h else .bad:=NS rfl rfl
@[simp] theorem Mb:qU [.frl ds] h=.ok (.tup ds) h:=NS rfl rfl
@[simp] theorem Ms {ns:List Int}:yR [.frl (ns.map D.int)] h=.ok (.int ns.sum) h:=by simp only[yR,e9,gf]
@[simp] theorem L9:kD (.bl b) h=.ok b h:=NS rfl rfl
@[simp] theorem Ng:dEq (.int i) (.int j) h=.ok (.bl (i == j)) h:=NS rfl rfl
@[simp] theorem Nk:dNe (.int i) (.int j) h=.ok (.bl (!(i == j))) h:=NS rfl rfl
@[simp] theorem M6:dEq (.str i) (.str j) h=.ok (.bl (i == j)) h:=NS rfl rfl
@[simp] theorem Nq:dNe (.str i) (.str j) h=.ok (.bl (!(i == j))) h:=NS rfl rfl
@[simp] theorem JR {j:Int}:iX nl [.int j] h=if j.natAbs<=1000000 then nl (bD 0 j.toNat) h else .bad:=by
 by_cases z:j.natAbs<=1000000
 ·rw[if_pos z];simp only[iX,zw,if_pos z]
 ·rw[if_neg z];simp only[iX,zw,if_neg z]
@[simp] theorem bR {t:Hh}:aq (h++.lst ds::t) h.length=some ds:=by
 unfold aq;simp
@[simp] theorem ip {t:Hh}:(h++o::t).set h.length o'=h++o'::t:=by
 simp
def Bh {n:Nat}{ds:List D} (e:aq h n=some ds):isL (.ref n) h=true:=by simp[isL,e]
def nD (e:aq h n=some ds):di (.ref n) [d] h=if ds.length<1000000 then .ok .non (h.set n (.lst (ds++[d]))) else .bad:=by delta di;simp_all
def Hj (e:aq h n=some ds):cU [.ref n] h=.ok (.int ds.length) h:=by
 unfold aq at e
 split at e
 ·rename_i ds' q;cases e;delta cU;simp_all
 grind
def mC (e:aq h n=some ds) (e2:ixN ds.length i=some j):f_ (.ref n) (.int i) v h=.ok () (h.set n (.lst (ds.set j v))):=by delta f_;simp_all
def Ct (e:aq h n=some xs) (e2:gM d h=some ys):fc (.ref n) [d] h=if xs.length+ys.length<=1000000 then .ok .non (h.set n (.lst (xs++ys))) else .bad:=by delta fc;simp_all
@[simp] theorem LK {t:Hh}:isL (.ref h.length) (h++.lst ds::t)=true:=Bh bR
@[simp] theorem Jf {t:Hh}:di (.ref h.length) [d] (h++.lst ds::t)=if ds.length<1000000 then .ok .non (h++.lst (ds++[d])::t) else .bad:=by rw[nD bR,ip]
@[simp] theorem Nu {t:Hh}:dIx (.ref h.length) (.int i) (h++.lst ds::t)=ixK ds i (h++.lst ds::t):=n5 bR
@[simp] theorem zE {t:Hh}:fc (.ref h.length) [.frl ys] (h++.lst ds::t)=if ds.length+ys.length<=1000000 then .ok .non (h++.lst (ds++ys)::t) else .bad:=by rw[Ct bR rfl,ip]
def E3 {n j:Nat} (e:i=(j:Int)) (hj:j<n):ixN n i=some j:=by
 subst e
 unfold ixN
 simp_all
end
@[simp] theorem LC:dY fw a env h=(a env h).bind fw:=NS rfl rfl
@[simp] theorem LL:dY qT a env h=(a env h).bind qT:=NS rfl rfl
@[simp] theorem Mm:fw [.int j] h=if j.natAbs<=1000000 then .ok (.snap (bD 0 j.toNat)) h else .bad:=NS rfl rfl
@[simp] theorem MX:qT [.int i,.int j] h=if i.natAbs<=1000000/\j.natAbs<=1000000 then .ok (.snap (bD i (j - i).toNat)) h else .bad:=NS rfl rfl
@[simp] theorem Nj:bp a env h=(a env h).bind r8:=NS rfl rfl
@[simp] theorem LO:ku a env h=(a env h).bind sT:=NS rfl rfl
@[simp] theorem M0:r8 (.tup ds) h=.ok (.snap ds) h:=NS rfl rfl
@[simp] theorem Nn:r8 (.frl ds) h=.ok (.snap ds) h:=NS rfl rfl
@[simp] theorem LB:lg nl [.tup (ns.map D.int)] h=if ns.length<64 then nl ((sortI ns).map D.int) h else .bad:=by simp only[lg,e9,gf]
def A8 (e:aq h n=some ds):r8 (.ref n) h=.ok (.live n) h:=by simp only[r8,e]
noncomputable def G_ (tg:D->En->Hh->R En) (body:MS) (env:En):Src->Hh->R Fl:=fun sr h1=>match sr with
 | .snap ds=>cI tg body ds env h1
 | .live n=>eX (Src.live n).rdr tg body ((aq h1 n).getD []).length 0 env h1
 | .liveE n=>eX (Src.liveE n).rdr tg body ((aq h1 n).getD []).length 0 env h1
@[simp] theorem Mx:G_ tg body env (.snap ds) h=cI tg body ds env h:=NS rfl rfl
@[simp] theorem JX:cx mi tg body env h=(mi env h).bind (G_ tg body env):=by
 congr 1
noncomputable def Kr (nl:NL) (tt:MT) (te:ME) (ee:D->En):Src->Hh->R D:=fun sr h1=>if sr.fuel h1<=1000000 then
 (match sr with
  | .snap ds=>cN tt te ee ds h1
  | .live n=>gm (Src.live n).rdr tt te ee ((aq h1 n).getD []).length 0 [] h1
  | .liveE n=>gm (Src.liveE n).rdr tt te ee ((aq h1 n).getD []).length 0 [] h1).bind nl else .bad
@[simp] theorem MP:c7 nl mi ix tt te env h=(mi env h).bind (Kr nl tt te (j8 ix env)):=NS rfl rfl
@[simp] theorem LA:Kr nl tt te ee (.snap ds) h=if ds.length<=1000000 then (cN tt te ee ds h).bind nl else .bad:=NS rfl rfl
@[simp] theorem Jg {lo:Int}{n:Nat}:(bD lo n).length=n:=by simp[bD]
@[simp] theorem Lr (x:Option β):Option.join (some x)=x:=by rfl
@[simp] theorem Na:j8 ix env=fun d=>some d::ix.map fun i=>(env[i]?).join:=NS rfl rfl
noncomputable def Jo (tg:D->En->Hh->R En) (body:MS) (ds:List D):Fl->Hh->R Fl:=fun fl h2=>match fl with
 | .nx e=>cI tg body ds e h2
 | .ct e=>cI tg body ds e h2
 | .bk e=>.ok (.nx e) h2
 | .rt d=>.ok (.rt d) h2
def xo:cI tg body [] env h=.ok (.nx env) h:=rfl
def fK:cI tg body (d::ds) env h=(tg d env h).bind fun e1 h1=>(body e1 h1).bind (Jo tg body ds):=rfl
@[simp] theorem Ki:Jo tg body ds (.nx e) h=cI tg body ds e h:=NS rfl rfl
def zy (ns):eJ (ns.map D.int)=(NQ ns.length).map fun(i:Nat)=>D.tup [.int i,.int (gI ns i)]:=by
 unfold eJ
 rw[NY]
 apply O8
 intro i hi
 have hi:=O1.mp hi
 rw[List.getD_eq_getElem?_getD,Oh,N0 hi,dg hi];rfl
theorem comp_map {X:Type}{tt:MT}{te:ME}{ee:D->En} (enc:X->D) (p:X->Bool) (g:X->D):∀(xs:List X),(∀x∈xs,tt (ee (enc x)) h=.ok (p x) h/\(p x=true->te (ee (enc x)) h=.ok (g x) h)) →
  cN tt te ee (xs.map enc) h=.ok ((xs.filter p).map g) h
 | [],_=>rfl
 | x::xs,st=>by
  obtain⟨e1,e2⟩:=st x NO
  have ih:=comp_map enc p g xs fun y hy=>st y (NH _ hy)
  rw[NR,cN,e1,cP]
  cases hp:p x with
  | false=>simp_all
  | true=>simp_all
def Cv {X:Type} (enc) (g) (xs:List X) (st:∀x∈xs,te (ee (enc x)) h=.ok (g x) h):cN tt1 te ee (xs.map enc) h=.ok (xs.map g) h:=by
 have:=comp_map (tt:=tt1) enc (fun _=>true) g xs fun x hx=>⟨rfl,fun _=>st x hx⟩
 rw[R4.mpr fun _ _=>rfl] at this
 omega
def dH (n):bD 0 n=(NQ n).map fun(i:Nat)=>D.int i:=by
 apply O8
 simp
def uA (p) (g) (st:∀i,i<n->tt (ee (.int (i:Nat))) h=.ok (p i) h/\(p i=true->te (ee (.int (i:Nat))) h=.ok (g i) h)) :
  cN tt te ee (bD 0 n) h=.ok (((NQ n).filter p).map g) h:=by
 rw[dH,comp_map (fun(i:Nat)=>D.int i) p g (NQ n) fun i hi=>st i (O1.mp hi)]
def Ah (g) (st:∀i,i<n->te (ee (.int (i:Nat))) h=.ok (g i) h) :
  cN tt1 te ee (bD 0 n) h=.ok ((NQ n).map g) h:=by
 rw[dH,Cv (fun(i:Nat)=>D.int i) g (NQ n) fun i hi=>st i (O1.mp hi)]
def yj {σ:Type} (enc) (n) (E:σ->En) (G:σ->Hh) (f) (I:Nat->σ->Prop) (s) (i0:I 0 s)
  (st:∀i s,i<n->I i s->I (i+1) (f s i)/\((tg (enc i) (E s) (G s)).bind body=.ok (.nx (E (f s i))) (G (f s i))\/(tg (enc i) (E s) (G s)).bind body=.ok (.ct (E (f s i))) (G (f s i)))) :
  cI tg body ((NQ n).map enc) (E s) (G s)=.ok (.nx (E ((NQ n).foldl f s))) (G ((NQ n).foldl f s))/\I n ((NQ n).foldl f s):=by
 have key:∀(k:Nat) (xs:List Nat) (s:σ),(∀j x,xs[j]?=some x->x=k+j/\x<n)->I k s->cI tg body (xs.map enc) (E s) (G s)=.ok (.nx (E (xs.foldl f s))) (G (xs.foldl f s))/\I (k+xs.length) (xs.foldl f s):=by
  intro k xs
  induction xs generalizing k with
  | nil=>intro s _ i;exact⟨rfl,i⟩
  | cons x xs ih=>
   intro s hx i
   obtain⟨h1,h2⟩:=hx 0 x rfl
   subst h1
   obtain⟨i1,e⟩:=st x s h2 i
   obtain⟨e2,i2⟩:=ih (x+1) (f s x) (fun j y hj=>by have:=hx (j+1) y hj;omega) i1
   refine⟨?_,by rw[OJ];grind⟩
   rw[NR,cI,<- bA]
   rcases e with e | e<;>rw[e]<;>exact e2
 have hr:∀j x,(NQ n)[j]?=some x->x=0+j/\x<n:=fun j x hj=>by
  grind
 have:=key 0 (NQ n) s hr i0
 simp_all
def BU {σ:Type} (lo) (n) (E:σ->En) (G:σ->Hh) (f) (I:Nat->σ->Prop) (s) (i0:I 0 s)
  (st:∀i s,i<n->I i s->I (i+1) (f s i)/\((tg (.int (lo+(i:Nat))) (E s) (G s)).bind body=.ok (.nx (E (f s i))) (G (f s i))\/(tg (.int (lo+(i:Nat))) (E s) (G s)).bind body=.ok (.ct (E (f s i))) (G (f s i)))) :
  cI tg body (bD lo n) (E s) (G s)=.ok (.nx (E ((NQ n).foldl f s))) (G ((NQ n).foldl f s))/\I n ((NQ n).foldl f s):=
 yj (fun(i:Nat)=>D.int (lo+i)) n E G f I s i0 st
def Wf (h:Hh):Prop:=h.all (je h.length)=true
mutual
theorem zC {j k:Nat} (h:j<=k):∀(d:D),gT j d=true->gT k d=true
 | .non,_=>rfl | .bl _,_=>rfl | .int _,_=>rfl | .str _,_=>rfl | .fn _,_=>rfl | .edic,_=>rfl | .exc _ _,_=>rfl
 | .clo _ ds,e=>by simp only[gT] at e ⊢;exact cj h ds e
 | .ref n,e=>by simp only[gT,decide_eq_true_eq] at e ⊢;omega
 | .tup ds,e=>by simp only[gT] at e ⊢;exact cj h ds e
 | .frl ds,e=>by simp only[gT] at e ⊢;exact cj h ds e
 | .scr ds,e=>by simp only[gT] at e ⊢;exact cj h ds e
theorem cj {j k:Nat} (h:j<=k):∀(ds:List D),a8 j ds=true->a8 k ds=true
 | [],_=>rfl
 | d::ds,e=>by
  simp only[a8,N5] at e ⊢
  exact⟨zC h d e.1,cj h ds e.2⟩
end
def ze (h:j<=k) (o) (e:je j o=true):je k o=true:=by
 cases o with
 | lst ds=>exact cj h ds e
 | set n=>rfl
 | dic kvs=>exact cj h _ e
 | dit kvs=>exact cj h _ e
theorem kN {k:Nat}:∀{ds:List D},(∀d∈ds,gT k d=true)->a8 k ds=true
 | [],_=>rfl
 | d::ds,h=>by simp only[a8,N5];exact⟨h d NO,kN fun e he=>h e (NH _ he)⟩
@[simp] theorem kf {X:Type}{f:X->D}{xs:List X} (h:∀x,gT k (f x)=true):a8 k (xs.map f)=true:=kN fun d hd=>by
 grind
@[simp] theorem GF {ns:List Int}:a8 k (ns.map D.int)=true:=kf fun _=>rfl
def Wf.nil:Wf []:=rfl
def Wf.app (w:Wf h) (l:je (h.length+1) o=true):Wf (h++[o]):=by
 unfold Wf at w ⊢
 rw[List.all_append,OF]
 simp only[Rc,List.all_nil,Bool.and_true,N5]
 refine⟨?_,l⟩
 rw[NZ] at w ⊢
 exact fun x hx=>ze (Ts _) x (w x hx)
noncomputable def deep:Nat->D->Bool
 | 0,_=>false
 | f+1,d=>match d with
  | .ref _=>false
  | .scr _=>false
  | .tup ds=>ds.all (deep f)
  | .frl ds=>ds.all (deep f)
  | .clo _ ds=>a8 0 ds
  | _=>true
theorem fh {f:D->Option D}:∀{ds:List D},(∀d∈ds,f d=some d)->iS f ds=some ds
 | [],_=>rfl
 | d::ds,h=>by simp only[iS,h d NO,fh fun e he=>h e (NH _ he)]
theorem cY {k:Nat}{h:Hh}:∀(f:Nat) (d:D),deep f d=true->eD k h f d=some d
 | 0,_,e=>by cases e
 | f+1,d,e=>by
  unfold deep at e
  cases d with
  | ref n=>cases e
  | scr n=>cases e
  | tup ds=>simp only[NZ] at e;show TQ D.tup (iS (eD k h f) ds)=_;rw[fh fun d hd=>cY f d (e d hd)];rfl
  | frl ds=>simp only[NZ] at e;show TQ D.frl (iS (eD k h f) ds)=_;rw[fh fun d hd=>cY f d (e d hd)];rfl
  | clo g ds=>show(if a8 0 ds=true then some (D.clo g ds) else none)=_;simp_all
  | _=>rfl
def f9 (w:Wf h) (e:deep 8 d=true):bg h d (h++t)=.ok d h:=by
 unfold bg
 rw[Rj rfl,if_pos (show h.all (je h.length)=true from w),cY 8 d e]
def qm {t:Hh} (w:Wf h) (e:ds.all (deep 7)=true):bg h (.ref h.length) (h++.lst ds::t)=.ok (.frl ds) h:=by
 unfold bg
 rw[Rj rfl,if_pos (show h.all (je h.length)=true from w)]
 have:eD h.length (h++.lst ds::t) 8 (.ref h.length)=some (.frl ds):=by
  unfold eD
  simp only[O7,bR]
  rw[NZ] at e
  rw[fh fun d hd=>cY 7 d (e d hd)];rfl
 rw[this]
def zW {t:Hh} (w:Wf h) (e:ds.all (deep 8)=true):gi h (.ref h.length) (h++.lst ds::t)=.ok (.ref h.length) (h++[.lst ds]):=by
 unfold gi
 rw[Rj rfl,if_pos (show h.all (je h.length)=true from w)]
 simp only[NK,if_true,bR]
 rw[NZ] at e
 rw[fh fun d hd=>cY 8 d (e d hd)]
@[simp] theorem Jv:deep (f+1) (.int i)=true:=rfl
@[simp] theorem Lv:deep (f+1) (.bl i)=true:=rfl
@[simp] theorem La:deep (f+1) (.str i)=true:=rfl
@[simp] theorem Js:deep (f+1) .non=true:=rfl
@[simp] theorem Je:deep (f+1) .edic=true:=rfl
@[simp] theorem KU:deep (f+1) (.tup ds)=ds.all (deep f):=rfl
@[simp] theorem K6:deep (f+1) (.frl ds)=ds.all (deep f):=rfl
end
def Ok (r:R β) (Q:β->Hh->Prop):Prop:=∃b h,r=.ok b h/\Q b h
section
variable {β γ:Type}{Q:β->Hh->Prop}{h h1 h2:Hh}
def Ok.mono {r:R β}{Q':β->Hh->Prop} (o:Ok r Q) (q:∀b h,Q b h->Q' b h):Ok r Q':=let ⟨b,h,e,z⟩:=o;⟨b,h,e,q b h z⟩
end
theorem q_ {X:Type}{tg:D->En->Hh->R En}{body:MS}{QS:Fl->Hh->Prop} (enc:X->D) (I:En->Hh->Prop) :
  ∀(xs:List X) (env:En) (h:Hh),I env h->(∀x e h,x∈xs->I e h->Ok ((tg (enc x) e h).bind body) fun fl h2=>match fl with
   | .nx e=>I e h2
   | .ct e=>I e h2
   | .bk e=>QS (.nx e) h2
   | .rt d=>QS (.rt d) h2)->(∀e h,I e h->QS (.nx e) h)->Ok (cI tg body (xs.map enc) env h) QS
 | [],env,h,i,_,q=>⟨_,_,rfl,q _ _ i⟩
 | x::xs,env,h,i,st,q=>by
  obtain⟨fl,h2,e,z⟩:=st x env h NO i
  rw[NR,cI,<- bA,e]
  cases fl with
  | nx e'=>exact q_ enc I xs e' h2 z (fun y e h hy=>st y e h (NH _ hy)) q
  | ct e'=>exact q_ enc I xs e' h2 z (fun y e h hy=>st y e h (NH _ hy)) q
  | bk e=>exact⟨_,_,rfl,z⟩
  | rt d=>exact⟨_,_,rfl,z⟩
end L2.FE
namespace L2.FE
open PySem PySem.Spec PyProof.Rows
noncomputable def FQ (h:Hh) (n:Nat):Option (List (Key × D)):=match h[n]? with
 | some (.dic kvs)=>some kvs
 | _=>none
abbrev PD (K:ND) (g:GG) (α:List Addr) (H:Hp):List (Key × D)->List (Key × V)->Prop:=Paired (fun(a:Key × D) (b:Key × V)=>a.1=b.1/\aC K g α H a.2 b.2)
section
variable {K:ND}{g:GG}{α:List Addr}{H:Hp}{h:Hh}
theorem aK.dic (r:aK K g α H h) (e:FQ h n=some kvs) (hp:α[n]?=some p):∃kws,H p=some (.dK kws)/\PD K g α H kvs kws:=by
 unfold FQ at e
 cases eo:h[n]? with
 | none=>simp_all
 | some o=>
  rw[eo] at e
  cases o with
  | dic k=>cases e;exact r.here n p _ hp eo
  | _=>cases e
def PD.ext (e:Ext K α H α' H') (r:PD K g α H kvs kws):PD K g α' H' kvs kws:=Paired.KD e.toEx0 r
theorem aB.dic (w:aB K g α H Q (.ref h.length) (h++[.dic kvs])) (r:aK K g α H h) (rs:PD K g α H kvs kws) (hp:H p=none):Q (.ref p) (upd H p (.dK kws)):=by
 have x:=Ext.push (K:=K) (α:=α) (o:=.dK kws) hp
 exact w _ _ _ x (r.push hp ⟨_,aL,rs.ext x⟩) (.ref (by rw[<- r.len];simp))
end
noncomputable def IL:D->Option Key
 | .int i=>some (.inl i)
 | .str x=>some (.inr x)
 | _=>none
def IA {K:ND}{g:GG} (r:aC K g α H d v) (e:IL d=some k):v=kV k:=by
 cases r<;>cases e<;>rfl
section
variable {X:Cx}{g:GG}{ε:EE}{o i e f:Expr}{mo mi me mf:ME}{pos:Pos}
def un1 {A:Oa} (h:A.units+64<cLine):A.units+1<cLine:=by omega
theorem sM:∀(ks:List V) (us:List NI),us.length=ks.length->(∀(j:Nat) (u:NI),us[j]?=some u->∃v,ks[j]?=some v/\RelV v u)->Vals ks us
 | [],[],_,_=>.nil
 | [],_::_,e,_=>by simp at e
 | _::_,[],e,_=>by simp at e
 | k::ks,u::us,e,h=>by
  obtain⟨v,e1,r⟩:=h 0 u rfl
  cases e1
  exact .cons r (sM ks us (by simp_all) fun j w hj=>h (j+1) w hj)
end
end L2.FE
namespace L2
open PySem PySem.Spec PyProof.Rows
def A9 (o) (f):(Qk f o).cls=o.cls:=Sr _ _
def zT (o) (f):(Qk f o).dict=o.dict:=by
 unfold Qk
 grind
structure Gn (h h':Heap):Prop where
 up:h.UpToSlots h'
 there:∀b o,h.get? b=some o->∃o',h'.get? b=some o'
theorem Gn.trans {h h1 h2:Heap} (a:Gn h h1) (b:Gn h1 h2):Gn h h2:=⟨a.up.trans b.up,fun c o q=>let ⟨_,q'⟩:=a.there c o q;b.there c _ q'⟩
structure Fly (B:Heap) (l) (e) (C) (dc) (fl) (h):Prop where
 stays:B.StaysIn h
 new:B.get? e=none
 fr:h.FunFrames B l
 obj:∃oe ws T oT ts,h.get? e=some oe/\oe.cls=C/\oe.dict=dc/\oe.data=.fields ws/\ws[1]?=some (.ref T)/\B.get? T=none/\T≠e/\h.get? T=some oT/\oT.data=.fields ts/\ts[3]?=some fl
def Fly.pop (x:Fly B (env::l) e C dc fl h):Fly B l e C dc fl h:=
 ⟨x.stays,x.new,x.fr.2.2,x.obj⟩
def Fly.there (x:Fly B l e C dc fl h):∃oe ws,h.get? e=some oe/\oe.cls=C/\oe.dict=dc/\oe.data=.fields ws:=by
 obtain⟨oe,ws,T,oT,ts,a,b,c,d,_⟩:=x.obj
 simp_all
section
variable {M:Model}{A:Oa}{E:NI->NM->Prop}{s:NM}{B:Heap}{env:Env}{l outer:List Env}{e L:Addr}{C:NI}{dc:Option Addr}{fl:NI}{Q:Unit->NM->Prop}
def qM (x:Fly B l e C dc fl s.heap) (k:∀h',Fly B l e C dc .none h'->Gn s.heap h'->Q () { s with heap:=h' }):wpAny M A (setFlight (.ref e) none) Q E s:=by
 obtain⟨st,nw,fr,oe,ws,T,oT,ts,q1,q2,q3,q4,q5,q6,q7,q8,q9,q10⟩:=x
 have hlt:=(PZ.mp q10).1
 have off:∀b,b≠T->(s.heap.update T (Qk (·.setIfInBounds 3 ((none:Option Addr).elim OS fun f=>rawInt f)))).get? b=s.heap.get? b:=fun b z=>OQ _ _ (Q7 z)
 have noF:∀b o,s.heap.get? b=some o->(∀vs,o.data≠.fields vs)->b≠T:=by
  grind
 refine gV (P7 q1 q4 q5 ?_)
 refine Qq q8 q9 hlt (k _ ⟨fun b o q=>(off b ?_).trans (st b o q),nw,fr.of_keeps fun b o q n=>⟨o,(off b (noF b o q n)).trans q,rfl⟩,oe,ws,T,_,_,(off e (Q7 q7)).trans q1,q2,q3,q4,q5,q6,q7,Oy _ q8 (O9 (OE q9 _)),OE q9 _,by grind⟩
  ⟨fun b o q n=>⟨o.slots,(off b (noF b o q n)).trans q⟩,fun b o q=>?_⟩)
 ·grind
 ·by_cases z:b=T
  ·subst z;exact⟨_,Oy _ q8 (O9 (OE q9 _))⟩
  simp_all
def pL (hA:A.frames=some (env::outer)) (fr:s.heap.FunFrames B (env::outer)) (hL:env.frame=some L) (q1:s.heap.get? e=some oe) (st:B.StaysIn s.heap) (nw:B.get? e=none) (q4:oe.data=.fields ws) (hlt:1<ws.size)
  (k:∀h',Fly B (env::outer) e oe.cls oe.dict (rawInt L) h'->Gn s.heap h'->Q () { s with heap:=h' }) :
  wpAny M A (do let fo ← frameOf env;let pl ← entryPlaceOf L had;let t ← EntryCells.newEntry head fo .none (rawInt L) .none pl;setField (.ref e) 1 t) Q E s:=by
 have hnf:e∉(env::outer).filterMap (·.frame):=fun z=>by
  obtain⟨_,o,ho,n⟩:=fr.mem z
  simp_all
 refine gV (wpAny_frameOf_fun hA fr hL fun h1 so=>gV (wpAny_entryPlaceOf fun pl hpl=>?_))
 obtain⟨z1,z2,z3⟩:=so
 refine gV (Of ?_ (hpl.sizeOk5 _ _ _ _ _))
 have e1:h1.get? e=some oe:=by simp_all
 have st1:B.StaysIn h1:=fun b o q=>by
  rw[z2 b fun z=>by rw[(fr.mem z).1] at q;cases q]
  exact st b o q
 generalize hT:({ cls:=.type "traceback", dict:=none,data:=.fields ([head,.ref L,.none,rawInt L,.none]++(if pl.isEmpty then N1 6 OS else pl)).toArray }:Obj)=oT
 have e2:(h1.push oT).get? e=some oe:=NF _ e1
 have dT:oT.data=.fields ([head,.ref L,.none,rawInt L,.none]++(if pl.isEmpty then N1 6 OS else pl)).toArray:=by grind
 have ne:=Pu (NJ e1)
 refine Qq e2 q4 hlt (k _ ?_ ?_)
 ·have off:∀b o,b≠e->h1.get? b=some o->((h1.push oT).update e (Qk (·.setIfInBounds 1 (Ob h1.objs.size)))).get? b=some o:=fun b o n q=>by
   rw[OQ _ _ (Q7 n)]
   exact NF _ q
  have noF:∀b o,h1.get? b=some o->(∀vs,o.data≠.fields vs)->b≠e:=by
   grind
  refine⟨fun b o q=>off b o ?_ (st1 b o q),nw,?_,_,_,h1.objs.size,oT,_,Oy _ e2 (O9 (OE q4 _)),A9 _ _,zT _ _,OE q4 _,by grind,?_,ne,?_,dT,?_⟩
  ·grind
  ·exact fr.of_keeps fun b o q n=>by
    grind
  ·cases q:B.get? h1.objs.size with
   | none=>rfl
   | some o=>exact absurd (NJ (st1 _ _ q)) (O7 _)
  ·rw[OQ _ _ (Q7 ne)]
   rw[<- hT]
   exact NN h1 rfl
  rfl
 ·refine⟨fun b o q n=>?_,fun b o q=>?_⟩
  ·obtain⟨sl,q'⟩:=z3 b o q
   refine⟨sl,?_⟩
   rw[OQ _ _ ?_]
   ·exact NF _ q'
   grind
  ·obtain⟨sl,q'⟩:=z3 b o q
   by_cases z:b=e
   ·subst z;exact⟨_,Oy _ e2 (O9 (OE q4 _))⟩
   ·exact⟨_,by rw[OQ _ _ (Q7 z)];exact NF _ q'⟩
def zb (hA:A.frames=some (env::outer)) (fr:s.heap.FunFrames B (env::outer)) (hL:env.frame=some L) (q1:s.heap.get? e=some oe) (st:B.StaysIn s.heap) (nw:B.get? e=none) (q4:oe.data=.fields ws) (q5:ws[1]?=some .none)
  (k:∀h',Fly B (env::outer) e oe.cls oe.dict (rawInt L) h'->Gn s.heap h'->Q () { s with heap:=h' }):wpAny M A (noteFrame (.ref e) env) Q E s:=by
 unfold noteFrame
 simp only[hL]
 refine gV (P7 q1 q4 q5 ?_)
 exact pL hA fr hL q1 st nw q4 (PZ.mp q5).1 k
def Cs (hA:A.frames=some (env::outer)) (hL:env.frame=some L) (x:Fly B (env::outer) e C dc .none s.heap)
  (k:∀h',Fly B (env::outer) e C dc (rawInt L) h'->Gn s.heap h'->Q () { s with heap:=h' }):wpAny M A (noteFrame (.ref e) env) Q E s:=by
 obtain⟨st,nw,fr,oe,ws,T,oT,ts,q1,q2,q3,q4,q5,q6,q7,q8,q9,q10⟩:=x
 have off:∀b,b≠T->(s.heap.update T (Qk (·.setIfInBounds 3 OS))).get? b=s.heap.get? b:=fun b z=>OQ _ _ (Q7 z)
 have noF:∀b o,s.heap.get? b=some o->(∀vs,o.data≠.fields vs)->b≠T:=by
  grind
 unfold noteFrame
 simp only[hL]
 refine gV (P7 q1 q4 q5 ?_)
 refine gV (P7 q8 q9 q10 ?_)
 refine gV (Qq q8 q9 (PZ.mp q10).1 ?_)
 refine pL hA (fr.of_keeps fun b o q n=>⟨o,(off b (noF b o q n)).trans q,rfl⟩) hL ((off e (Q7 q7)).trans q1) (fun b o q=>(off b ?_).trans (st b o q)) nw q4 (PZ.mp q5).1 fun h' y u=>?_
 ·grind
 ·subst q2 q3
  refine k h' y ⟨fun b o q n=>u.up b o ((off b (noF b o q n)).trans q) n,fun b o q=>?_⟩
  by_cases z:b=T
  ·subst z;exact u.there _ _ (Oy _ q8 (O9 (OE q9 _)))
  ·exact u.there b o ((off b z).trans q)
end
def Dj (x:a_ P w H h a o):∃u,h.get? a=some u:=by
 cases o with
 | lst xs=>obtain⟨_,_,_,_,e⟩:=x;simp_all
 | tup xs=>obtain⟨_,_,_,ob,e,_⟩:=x;simp_all
 | dK kvs=>obtain⟨_,_,_,_,o,_,_,e,_⟩:=x;simp_all
 | dT kvs=>obtain⟨_,_,_,_,o,_,_,e,_⟩:=x;simp_all
 | set S n=>obtain⟨o,_,_,_,e,_⟩:=x;simp_all
 | ins C dx fs=>obtain⟨_,_,_,e,_⟩:=x;simp_all
 | own y=>exact x
 | xd fs=>obtain⟨_,⟨_,_,_,e,_⟩,_⟩:=x;simp_all
 | rng lo hi=>obtain⟨_,_,_,e⟩:=x;simp_all
 | frz ob u=>obtain⟨e,_⟩:=x;simp_all
 | tbl ps=>exact⟨_,(show h.get? a=some _ from x)⟩
 | met f y=>exact⟨_,(show h.get? a=some _ from x)⟩
 | ext φ=>obtain⟨_,e,_⟩:=x;exact e
def Arr (B:Heap) (l:List Env) (e:Addr) (C:NI) (dc:Option Addr) (h:Heap):Prop:=
 (B.StaysIn h/\B.get? e=none/\h.FunFrames B l/\∃oe ws,h.get? e=some oe/\oe.cls=C/\oe.dict=dc/\oe.data=.fields ws/\ws[1]?=some .none)\/Fly B l e C dc .none h
theorem Arr.stays (x:Arr B l e C dc h):B.StaysIn h:=x.elim (·.1) (·.stays)
theorem Arr.new (x:Arr B l e C dc h):B.get? e=none:=x.elim (·.2.1) (·.new)
theorem Arr.fr (x:Arr B l e C dc h):h.FunFrames B l:=x.elim (·.2.2.1) (·.fr)
section
variable {M:Model}{A:Oa}{E:NI->NM->Prop}{s:NM}{B:Heap}{env:Env}{outer:List Env}{e L:Addr}{C:NI}{dc:Option Addr}{Q:Unit->NM->Prop}
def uH (hA:A.frames=some (env::outer)) (hL:env.frame=some L) (x:Arr B (env::outer) e C dc s.heap)
  (k:∀h',Fly B (env::outer) e C dc (rawInt L) h'->Gn s.heap h'->Q () { s with heap:=h' }):wpAny M A (noteFrame (.ref e) env) Q E s:=by
 rcases x with⟨st,nw,fr,oe,ws,q1,rfl,rfl,q4,q5⟩ | x
 ·exact zb hA fr hL q1 st nw q4 q5 k
 ·exact Cs hA hL x k
def zf (hA:A.frames=some (env::outer)) (hL:env.frame=some L) (x:Arr B (env::outer) e C dc s.heap)
  (k:∀h',Fly B outer e C dc .none h'->Gn s.heap h'->Q () { s with heap:=h' }):wpAny M A (leaving env (.ref e)) Q E s:=by
 exact gV (uH hA hL x fun h1 x1 u1=>qM x1 fun h2 x2 u2=>k h2 x2.pop (u1.trans u2))
end
structure Cov (B:Heap) (fs:List Addr) (aD:Hp) (h₀:Heap) (H':Hp):Prop where
 trk:∀b o,H' b=some o->∃u,B.get? b=some u
 old:∀b o,h₀.get? b=some o->aD b=none->b∉fs->B.get? b=some o
noncomputable def CXE (P:NT) (w:Oe):CXT:=fun outer H s E e s'=>∃H' B a C dc,e=.ref a/\s'.os=s.os/\SE s'.gens/\Un (frs outer) [] H H' s.heap s'.heap/\HOk P w H' s'.heap/\Fly B outer a C dc .none s'.heap/\Cov B (frs outer) H s.heap H'/\E C dc H'
def XeB (X:Cx) (E:XK) (e:NI) (s':NM):Prop:=∃(σ:St) (H':Hp) (B:Heap) (a:Addr) (C:NI) (dc:Option Addr),e=.ref a/\Inv X [] σ H' s'/\Arr B X.stack a C dc s'.heap/\Cov B X.fs X.aD X.ax.heap H'/\(∀p∈X.pn,B.get? p.1=some p.2)/\E C dc H'
def eY (X:Cx) (E:XK):Prop:=∀e s',XeB X E e s'->X.xe e s'
structure Plain (X:Cx):Prop where
 ex:X.ex=[]
 stk:X.stack=X.env::X.outer/\X.env.frame=some X.env.locals
def HOk.flew {B h h':Heap} (x:HOk P w H' h) (tr:∀b o,H' b=some o->∃u,B.get? b=some u) (st:B.StaysIn h) (st':B.StaysIn h'):HOk P w H' h':=fun a o e=>
 (x a o e).iy (fun b u hb q=>by
  obtain⟨u',q'⟩:∃u,B.get? b=some u:=by
   grind
  have:=st _ _ q'
  rw[q] at this;cases this
  exact st' _ _ q') (fun _ q=>q) fun _ _ q=>q
def Inv.drop {σ:St} (I:Inv X pins σ H s):Inv X [] σ H s:=
 ⟨I.ok,I.os,I.bare,I.base,I.loc,I.cell,I.free,I.cD,fun p hp=>I.pin p (by simp_all),I.hok,I.len⟩
def x_ (u:Un fs [] aD H' h₀ h) (c:Cov B fs aD h₀ H') (st':B.StaysIn h') (g:Gn h h') (nf:∀b∈fs,∀o,h.get? b=some o->∀vs,o.data≠.fields vs):Un fs [] aD H' h₀ h':=
 ⟨fun b o e n hb _=>st' b o (c.old b o e n hb),fun b o e n hb hx=>by
  obtain⟨sl,q⟩:=u.slot b o e n hb hx
  obtain⟨sl',q'⟩:=g.up b _ q (nf b hb _ q)
  simp_all,u.free,fun b o e hx=>by
  obtain⟨o',q⟩:=u.there b o e hx
  exact g.there b o' q,u.i5,u.jA,u.lM⟩
theorem Inv.flew {X:Cx}{σ:St}{H':Hp}{s':NM}{B h':Heap}{t':Nat} (I:Inv X [] σ H' s') (p:Plain X) (c:Cov B X.fs X.aD X.ax.heap H') (pn:∀p∈X.pn,B.get? p.1=some p.2) (st:B.StaysIn s'.heap) (fr:s'.heap.FunFrames B X.stack) (st':B.StaysIn h') (g:Gn s'.heap h'):Inv X [] σ H' { s' with heap:=h',toks:=t' }:=by
 have cellK:∀{c':Addr} {v:Option NI},s'.heap.IsCell c' v->h'.IsCell c' v:=fun{c' v} ⟨o,ho,hd⟩=>by
  obtain⟨sl,q⟩:=g.up c' o ho fun vs z=>by simp_all
  exact⟨_,q,hd⟩
 refine⟨I.ok,I.os,I.bare,?_,?_,fun x c' e=>let ⟨v,q⟩:=I.cell x c' e;⟨v,cellK q⟩,I.free,I.cD,fun q hq=>?_,I.hok.flew c.trk st st',I.len⟩
 ·have u:=I.base
  rw[p.ex] at u ⊢
  refine x_ u c st' g fun b hb o q vs z=>?_
  have:b∈X.stack.filterMap (·.frame):=by
   rw[p.stk.1,QV,p.stk.2]
   exact NH _ hb
  obtain⟨_,o',q',n⟩:=fr.mem this
  simp_all
 ·obtain⟨m,hn,k⟩:=I.loc
  refine⟨m,g.up.ns hn,fun i x v a b c=>?_⟩
  obtain⟨u,r,l⟩:=k i x v a b c
  refine⟨u,r,l.imp (fun z=>z) fun⟨z,c',e,q⟩=>⟨z,c',e,cellK q⟩⟩
 ·have:=I.pin q hq
  rw[O2] at hq
  exact⟨st' _ _ (pn q hq),this.2⟩
section
variable {P:NT}{w:Oe}{K:ND}{mg:Str->Option NI}{base:Heap}
def zM:eY (dW (CXE P w) P w K mg base N qual scope f cd A outer s H E) E:=by
 rintro e s' ⟨σ,H',B,a,C,dc,rfl,I,ar,c,_,q⟩
 have fr:=ar.fr
 have hA:=I.ok.frames
 refine zf hA rfl ar fun h' x g=>?_
 refine⟨H',B,a,C,dc,rfl,I.os,I.bare,x_ (show Un (frs outer) [] H H' s.heap s'.heap from I.base) c x.stays g fun b hb o q vs z=>?_,I.hok.flew c.trk ar.stays x.stays,x,c,q⟩
 have:b∈(envOfC qual scope s.heap.objs.size f cd::outer).filterMap (·.frame):=NH _ hb
 obtain⟨_,o',q',n⟩:=(show s'.heap.FunFrames B (envOfC qual scope s.heap.objs.size f cd::outer) from fr).mem this
 simp_all
end
def vL (p:Plain X) (fl:eY X E):Passes (CXE X.prog X.w) X E:=by
 rintro pins σ H s e s' I ⟨H',B,a,C,dc,rfl,os,bare,un,hok,x,c,q⟩
 refine fl _ _ ⟨σ,H',B,a,C,dc,rfl,(I.qo os un hok bare fun b z=>absurd z (by simp)).drop,.inr x,⟨c.trk,fun b o e n hb=>?_⟩,fun p' hp=>?_,q⟩
 rotate_left
 ·obtain⟨q1,q2,q3,q4,q5⟩:=I.pin p' (Pz _ hp)
  refine c.old _ _ q1 q2 fun z=>?_
  rcases NV.mp (I.d_ _ z) with z | z
  ·grind
  simp_all
 have hx:b∉X.ex:=by rw[p.ex];simp
 refine c.old b o (I.base.keep b o e n hb hx) (I.base.free b o e n hx) fun z=>?_
 rcases NV.mp (I.d_ b z) with rfl | z
 ·exact absurd (NJ e) (Qn I.ok.above)
 simp_all
def zq {σ:St} (p:Plain X) (fl:eY X E) (I:Inv X pins σ H s) (k:∀b o,s.heap.get? b=some o->h'.get? b=some o)
  (nw:s.heap.get? a=none) (q1:h'.get? a=some oe) (q2:oe.cls=C) (q3:oe.dict=dc) (q4:oe.data=.fields ws) (q5:ws[1]?=some .none) (q:E C dc H):X.xe (.ref a) { s with heap:=h',toks:=t' }:=by
 have fr:=I.stack
 have nfr:=I.jz
 refine fl _ _ ⟨σ,H,RZ s.heap (frs X.stack),a,C,dc,rfl,(I.kept k).drop,.inl ⟨fun b o z=>k b o (Q6 _ z),?_,?_,oe,ws,q1,q2,q3,q4,q5⟩,⟨fun b o z=>?_,fun b o e n hb=>?_⟩,fun p' hp=>?_,q⟩
 rotate_right
 ·obtain⟨q1,q2,q3,q4,q5⟩:=I.pin p' (Pz _ hp)
  refine Po _ q1 fun z=>?_
  rcases NV.mp (I.d_ _ z) with z | z
  ·grind
  simp_all
 ·cases z:(RZ s.heap (frs X.stack)).get? a with
  | none=>rfl
  | some o=>have:=Q6 _ z;simp_all
 ·exact(PySem.W.funFrames_hide fr fun env he b hb=>Q9.mpr ⟨env,he,hb⟩).of_keeps fun b o z _=>⟨o,k b o z,rfl⟩
 ·obtain⟨u,hu⟩:=Dj (I.hok b o z)
  exact⟨u,Po _ hu fun hm=>by simp_all⟩
 ·have hx:b∉X.ex:=by rw[p.ex];simp
  refine Po _ (I.base.keep b o e n hb hx) fun z=>?_
  rcases NV.mp (I.d_ b z) with rfl | z
  ·exact absurd (NJ e) (Qn I.ok.above)
  simp_all
noncomputable abbrev bmV:List NI:=[.type "ValueError", .type "Exception", .type "BaseException", .type "object"]
def D8 {K:ND} (X:K.In h) (q:SJ K C bmB newId=true) :
  ∃bm N nm q' bs hdct sn sub ab col dd k0 k1 k2 k3 k5 mN,h.get? C=some (excClassObj nm q' C N bs bm hdct sn sub ab col dd k0 k1 k2 k3 k5 newId)/\h.Ns N mN/\mN "__init__" = none/\Uu h bmB bm:=by
 unfold SJ at q
 split at q
 ·rename_i dd cd sl ho
  split at q
  ·rename_i C' bm k0 k1 k2 k3 n k5 hm hs
   simp only[N5,beq_iff_eq,Bool.not_eq_true'] at q
   obtain⟨⟨⟨⟨⟨rfl,rfl⟩,hdel⟩,ht⟩,hok⟩,hni⟩:=q
   obtain⟨nm,bs,mro,ns,qn,hd,sn,sub,ab,col,del⟩:=cd
   subst hm hdel
   obtain rfl:sl = #[k0,k1,k2,k3,some (.builtin n),k5]:=by
    grind
   exact⟨bm,ns,nm,qn,bs,hd,sn,sub,ab,col,dd,k0,k1,k2,k3,k5,_,X _ _ ho,.of_isNs (PySem.W.isNs_of_in X hok),PySem.W.nsMap_none_of_in X hok hni,PySem.W.tail_of_in X ht⟩
  grind
 grind
def G4 {σ:St} (p:Plain X) (fl:eY X E) (hc:X.calm=true) (I:Inv X pins σ H s) (hg:Gl X x) (hm:X.mg x=some (.ref C)) (hC:SJ X.K C bmV "ValueError.__new__" = true)
  (q:E (.ref C) none H) (hdb:(x == ("__debug__" : Str))=false:=by decide):wpAny (model X.prog X.w) X.A (exec (.Raise (some (.Call (.Name x np) [] [] cpos)) none pos) X.env) Q X.xe s:=by
 obtain⟨tl,N,nm,q',bs,hdct,sn,sub,ab,col,dd,k0,k1,k2,k3,k5,mN,hC',hN,hni,T⟩:=D8 I.kIn hC
 refine wpAny_Raise_call_subT (nm:=nm) (q:=q') (N:=N) (bs:=bs) (hdct:=hdct) (sn:=sn) (sub:=sub) (ab:=ab) (col:=col) (dd:=dd) (k0:=k0) (k1:=k1) (k2:=k2) (k3:=k3) (k5:=k5) P0 (T.hasType P0.hasBase) (I.ok.hd hc) rfl hni (fT I hg hm ⟨rfl,?_⟩ hdb)
 refine evalArgs_empty ⟨rfl,OI _,hC',hN,T,fun h' e me=>?_⟩
 obtain⟨t,he,_,_⟩:=me.there
 exact zq p fl I me.keeps me.new he rfl rfl rfl rfl q
end L2
namespace L2.FE
open PySem PySem.Spec PyProof.Rows
noncomputable def εX (g:GG) (E:XK):EE:=fun _ H' x=>∀C dc , g x.cls=some C->XFs H' dc x.fs->E (.ref C) dc H'
noncomputable abbrev spE (K:ND) (g:GG) (np:Nat) (m:MF):Sp:=spG K g (εX g) np m
def jC (P:NT) (w:Oe) (K:ND) (mg:Str->Option NI) (base:Heap) (g:GG) (x:Str) (k:Nat) (ps:List Str) (m:MF):Prop:=
 ∃f fd,b9 P w K mg base (CXE P w) k f fd ps (spE K g ps.length m)/\Om K (.ref f)=true/\Binds K fd ps []/\mg x=some (.ref f)
noncomputable def wH (x:Str):MS:=fun _ h=>.err ⟨x,[]⟩ h
noncomputable def noR:R β->R β
 | .ok b h=>.ok b h
 | _=>.bad
@[simp] theorem LP (b:β) (h):noR (.ok b h)=.ok b h:=rfl
noncomputable def up (m:En->Hh->R β):En->Hh->R β:=fun env h=>noR (m env h)
def qW {K:ND}{k:β->Hh->Prop} (w:WQ K g ε α H (noR r) k):WQ K g E00 α H r k:=by
 cases r with
 | ok b h=>exact w
 | err x h=>exact w.elim
 | bad=>exact w.elim
section
variable {P:NT}{w:Oe}{K:ND}{mg:Str->Option NI}{base:Heap}{g:GG}
def BW {st:Stmt} (F:Fun K x qual st f fd) (S:az N ps (ag st))
  (hb:∀cdv A outer s H E , bG k (A.deeper (envOfC qual (ag st) s.heap.objs.size f cdv)) →
   eY (dW (CXE P w) P w K mg base N qual (ag st) f cdv A outer s H E) E->Plain (dW (CXE P w) P w K mg base N qual (ag st) f cdv A outer s H E) →
   Sm (model P w) (A.deeper (envOfC qual (ag st) s.heap.objs.size f cdv)) (envOfC qual (ag st) s.heap.objs.size f cdv) (dW (CXE P w) P w K mg base N qual (ag st) f cdv A outer s H E).xe →
   PSs (dW (CXE P w) P w K mg base N qual (ag st) f cdv A outer s H E) (aP st) (tMS K g (εX g E) mb)):b9 P w K mg base (CXE P w) (k+1) f fd ps (spE K g ps.length (bF N.length mb)):=by
 obtain⟨oc,od,kV,doc,pm,an,cdv,ct,osl,rfl,lk,hcd⟩:=F.ex
 refine Gg lk hcd S (fun vs H Q E h=>h.1) fun A outer s H vs Q E hr hsp=>⟨_,hb cdv A outer s H E hr zM ⟨rfl,rfl,rfl⟩ Sm.leaving,?_⟩
 obtain⟨hl,α,ds,h,rs,hh,w⟩:=hsp
 refine tMS.use ⟨hh,ir rs⟩ w.bind fun fl h' H' α' e r kk=>?_
 cases fl with
 | nx e'=>exact fun σ' s'=>(show aB K g α H Q .non h' from kk) _ H' α' e r .non
 | bk e'=>exact kk.elim
 | ct e'=>exact kk.elim
 | rt d=>exact fun v rv=>(show aB K g α H Q d h' from kk) _ H' α' e r rv
end
section
variable {X:Cx}{g:GG}{E:XK}{ε:EE}
def DX {x:Str}{C:Addr}{np cpos pos:Pos} (fl:eY X E) (pl:Plain X) (hc:X.calm=true) (hg:Gl X x) (hm:X.mg x=some (.ref C)) (hgx:g x=some C) (hC:SJ X.K C bmV "ValueError.__new__" = true) (hdb:(x == ("__debug__" : Str))=false:=by decide) :
  PS X (.Raise (some (.Call (.Name x np) [] [] cpos)) none pos) (tMS X.K g (εX g E) (wH x)):=fun pins s σ H D I ⟨α,env,h,sr,w⟩=>
 G4 pl fl hc I hg hm hC (w α H Ext.refl sr.heap C none hgx (.inl ⟨rfl,rfl⟩)) hdb
def CS {k:Nat}{f:Addr}{fd:P_}{ps:List Str}{m:MF}{np:Nat}{x:Str}{p pos:Pos}{e:Expr}{es:List Expr}{mr:MA} (fl:eY X E) (pl:Plain X) (F:b9 X.prog X.w X.K X.mg X.base (CXE X.prog X.w) k f fd ps (spE X.K g np m)) (hr:bG k X.A) (hg:Gl X x) (hm:X.mg x=some (.ref f)) (hk:Om X.K (.ref f)=true) (hb:Binds X.K fd ps [])
  (ha:PA X (e::es) (tMA X.K g (εX g E) mr)) (hlen:∀env h ds h',mr env h=.ok ds h'->ds.length=np) (hdb:(x == ("__debug__" : Str))=false:=by decide) (he:starEach (e::es) X.env=(false,eval e X.env)::starEach es X.env:=by rfl) (hpl:(backTo pos (starEach es X.env)).any (·.1)=false:=by rfl) :
  PE X (.Call (.Name x p) (e::es) [] pos) (tM X.K g (εX g E) (ah m mr)):=
 PE.imp (xA F hr hg hm hk hb .nil (vL pl fl) ha hdb he hpl) fun σ H Q ⟨α,env,h,s,w⟩=>⟨α,env,h,s,w.bind.mono fun d1 h1 eq w1 v1 H1 α1 e1 hr1 r1=>by
  show spE X.K g np m (v1++[]) H1 Q E
  rw[O2]
  refine⟨?_,α1,d1,h1,r1,hr1,w1.post e1⟩
  rw[<- r1.length]
  grind⟩
theorem _root_.L2.PS.nox (h:PS X.nox e t):PS X e t:=fun pins s σ H D I hw=>
 N6 (h pins s σ H D (I.kM _) hw) (fun _ _ q=>q.eN) fun _ _ z=>QE z
def KQ {e:Expr}{m:ME} (h:PE X.nox e (tM X.K g E00 m)):PE X e (tM X.K g ε (up m)):=PE.imp h.nox fun σ H Q ⟨α,env,h,s,w⟩=>⟨α,env,h,s,qW w⟩
def F6 {e:Expr}{m:MT} (h:PT X.nox e (tMT X.K g E00 m)):PT X e (tMT X.K g ε (up m)):=PT.imp h.nox fun σ H Q ⟨α,env,h,s,w⟩=>⟨α,env,h,s,qW w⟩
def EY {e:Stmt}{m:MS} (h:PS X.nox e (tMS X.K g E00 m)):PS X e (tMS X.K g ε (up m)):=PS.imp h.nox fun σ H Q ⟨α,env,h,s,w⟩=>⟨α,env,h,s,qW w⟩
end
end L2.FE
namespace L2
open PySem PySem.Spec PyProof.Rows
noncomputable abbrev unm (A:Oa):Oa:={ A with handled:=none }
section
variable {X:Cx}{pins:List (Addr × Obj)}{σ:St}{H:Hp}{s:NM}
noncomputable abbrev Cx.hand (X:Cx) (A:Oa) (pn:List (Addr × Obj)) (E:NI->NM->Prop):Cx:={ X with A:=A,calm:=false,pn:=pn,xe:=E }
theorem Inv.hand (I:Inv X pins σ H s){A:Oa} (hA:A.frames=X.A.frames){pn pins':List (Addr × Obj)} (hp:∀p∈pn++pins',p∈X.pn++pins) (E:NI->NM->Prop):Inv (X.hand A pn E) pins' σ H s:=
 ⟨⟨I.ok.mod,I.ok.kind,I.ok.glob,I.ok.blt,I.ok.above,I.ok.inj,I.ok.has,I.ok.cab,fun z=>(nomatch z),hA.trans I.ok.frames,I.ok.stk,I.ok.exf,I.ok.bs,I.ok.bsz,I.ok.pf,I.ok.tD,I.ok.g_,I.ok.frf⟩,I.os,I.bare,I.base,I.loc,I.cell,I.free,I.cD,fun p h=>I.pin p (hp p h),I.hok,I.len⟩
noncomputable abbrev Cx.wpn (X:Cx) (pn:List (Addr × Obj)) (E:NI->NM->Prop):Cx:={ X with pn:=pn,xe:=E }
theorem Inv.wpn (I:Inv X pins σ H s) (hp:∀p∈pn++pins',p∈X.pn++pins) (E):Inv (X.wpn pn E) pins' σ H s:=
 ⟨⟨I.ok.mod,I.ok.kind,I.ok.glob,I.ok.blt,I.ok.above,I.ok.inj,I.ok.has,I.ok.cab,I.ok.hd,I.ok.frames,I.ok.stk,I.ok.exf,I.ok.bs,I.ok.bsz,I.ok.pf,I.ok.tD,I.ok.g_,I.ok.frf⟩,I.os,I.bare,I.base,I.loc,I.cell,I.free,I.cD,fun p h=>I.pin p (hp p h),I.hok,I.len⟩
def Inv.back (J:Inv (X.hand A pn E) pins' σ H s) (ok:X.Ok) (hp:∀p∈X.pn++pins,p∈pn++pins'):Inv X pins σ H s:=
 ⟨ok,J.os,J.bare,J.base,J.loc,J.cell,J.free,J.cD,fun p h=>J.pin p (hp p h),J.hok,J.len⟩
def Inv.adopt (I:Inv X [] σ H s) (p:Plain X) (c:Cov B X.fs X.aD X.ax.heap H) (pn:∀p∈X.pn,B.get? p.1=some p.2) (fr:s.heap.FunFrames B X.stack) (nw:B.get? a=none) (q1:s.heap.get? a=some oe) (q4:oe.data=.fields ws) :
  H a=none/\Inv X [] σ (upd H a (FE.AtO a oe)) s:=by
 have hn:H a=none:=by
  cases z:H a with
  | none=>rfl
  | some o=>obtain⟨u,hu⟩:=c.trk a o z;simp_all
 have nfr:∀b∈X.env.locals::X.fs,b≠a:=by
  rintro b hb rfl
  have:b∈X.stack.filterMap (·.frame):=by
   rw[p.stk.1,QV,p.stk.2]
   exact hb
  obtain⟨_,o',q',n⟩:=fr.mem this
  simp_all
 refine⟨hn,I.ok,I.os,I.bare,?_,I.loc,I.cell,?_,fun x c' e=>?_,fun q hq=>?_,fun b o e=>?_,I.len⟩
 ·obtain⟨u1,u2,u3,u4,u5,u6,u7⟩:=I.base
  refine⟨u1,u2,fun b o e n hx=>?_,u4,fun b xs q=>?_,fun b o u q=>?_,fun b ps q=>?_⟩
  ·rw[aw ?_];exact u3 b o e n hx
   rintro rfl
   by_cases hb:b∈X.fs
   ·grind
   ·have:=c.old b o e n hb
    simp_all
  ·have:=u5 b xs q
   rw[aw (aE this hn)];omega
  ·have:=u6 b o u q
   rw[aw (aE this hn)];omega
  ·obtain⟨more,this⟩:=u7 b ps q
   exact⟨more,by rw[aw (aE this hn)];omega⟩
 ·rw[aw (nfr _ NO)];exact I.free
 ·rw[aw ?_];exact I.cD x c' e
  rintro rfl
  obtain⟨v,o,ho,hd⟩:=I.cell x c' e
  simp_all
 ·have z:=I.pin q hq
  refine⟨z.1,?_,z.2.2⟩
  rw[aw ?_];exact z.2.1
  grind
 ·by_cases hb:b=a
  ·subst hb
   rw[aL] at e;cases e
   exact⟨q1,q1,⟨_,q1⟩,fun h1 h2 z k=>k _ z⟩
  ·rw[aw hb] at e
   exact(I.hok b o e).iy (fun _ _ _ z=>z) (fun c' z=>by rw[aw (aE z hn)];exact z) fun c' xs z=>by rw[aw (aE z hn)];exact z
def Inv.forget {i:Nat}{x:Str}{m m':Str->Option NI}{h':Heap}{t':Nat} (I:Inv X pins σ H s) (hN:X.N.Nodup) (hi:X.N[i]?=some x) (hn:s.heap.Ns X.env.locals m) (hn':h'.Ns X.env.locals m') (hm:∀y,y≠x->m' y=m y) (sb:PC X.env.locals s.heap h'):Inv X pins (σ.set i none) H { s with heap:=h',toks:=t' }:=by
 have kp:=fun b n=>sb.2 b n
 have cellK:∀y c v,X.env.cells.lookup y=some c->s.heap.IsCell c v->h'.IsCell c v:=fun y c v e ⟨o,ho,hd⟩=>⟨o,by rw[kp c (I.cne y c e)];exact ho,hd⟩
 refine⟨I.ok,I.os,I.bare,?_,⟨m',hn',fun j y v a b c=>?_⟩,fun y c e=>let ⟨v,q⟩:=I.cell y c e;⟨v,cellK y c v e q⟩,I.free,I.cD,fun q hq=>?_,fun b o e=>?_,by rw[List.length_set];exact I.len⟩
 ·obtain⟨u1,u2,u3,u4,u5,u6,u7⟩:=I.base
  have ne:∀b o,X.ax.heap.get? b=some o->b≠X.env.locals:=fun b o e=>NU (N7 (NJ e) I.ok.above)
  exact⟨fun b o e n h1 h2=>by simp_all,fun b o e n h1 h2=>by simp_all,u3,fun b o e h2=>by simp_all,u5,u6,u7⟩
 ·rw[Ss] at b
  by_cases hj:i=j
  ·simp_all
  ·rw[if_neg hj] at b
   obtain⟨m0,hn0,k⟩:=I.loc
   obtain⟨u,r,l⟩:=k j y v a b c
   have hy:y≠x:=by
    rintro rfl
    exact hj ((List.getElem?_inj (OO.mp hi).1 hN).mp (hi.trans a.symm))
   have e0:m0=m:=by
    obtain⟨o1,es1,ep1,a1,a2,a3,a4⟩:=hn0
    obtain⟨o2,es2,ep2,b1,b2,b3,b4⟩:=hn
    grind
   subst e0
   refine⟨u,r,l.imp (fun z=>⟨z.1,by simp_all⟩) fun⟨z,c',e,q⟩=>⟨z,c',e,cellK y c' _ e q⟩⟩
 ·have z:=I.pin q hq
  simp_all
 ·exact(I.hok b o e).iy (fun c' u hc q=>by
   rw[kp c' ?_];exact q
   rintro rfl
   rcases hc with rfl | hc
   ·rw[I.free] at e;cases e
   ·rw[I.free] at hc;cases hc) (fun _ q=>q) fun _ _ q=>q
end
structure FnH (P) (w) (K) (mg) (base) (k) (f) (fd) (ps:List Str) (sp:Sp):Prop where
 len:∀vs H Q E,sp vs H Q E->vs.length=ps.length
 run:∀A outer s H args us vs Q E , bG k (unm A)->vE P w K mg base A outer s H->TR s fd args (ps.zip us)->Vals vs us->sp vs H Q E →
  codeAny (model P w) A (.call (.ref f) args) (CR CX0 outer P w H s Q E) s
theorem FnH.mono {K:ND} (F:FnH P w K mg base j f fd ps sp) (h:j<=k):FnH P w K mg base k f fd ps sp:=
 ⟨F.len,fun A outer s H args us vs Q E hr=>F.run A outer s H args us vs Q E (hr.mono h)⟩
section
variable {P:NT}{w:Oe}{K:ND}{mg:Str->Option NI}{base:Heap}
noncomputable abbrev cxH (P:NT) (w:Oe) (K:ND) (mg:Str->Option NI) (base:Heap) (N:List Str) (qual:Str) (scope:R0) (f:Addr) (cd:NI) (A:Oa) (outer:List Env) (s:NM) (H:Hp) (E:XK):Cx:=
 (dW CX0 P w K mg base N qual scope f cd A outer s H E).hand (A.deeper (envOfC qual scope s.heap.objs.size f cd)) [] fun _ _=>False
def GS {x qual:Str}{st:Stmt}{f:Addr}{fd:P_}{N ps:List Str}{k:Nat}{sp:Sp} (F:Fun K x qual st f fd) (S:az N ps (ag st)) (len:∀vs H Q E,sp vs H Q E->vs.length=ps.length)
  (hbody:∀(cdv:NI) (A:Oa) (outer:List Env) (s:NM) (H:Hp) (vs:List V) (Q:VK) (E:XK),bG k (unm (A.deeper (envOfC qual (ag st) s.heap.objs.size f cdv)))->sp vs H Q E →
   ∃t,PSs (cxH P w K mg base N qual (ag st) f cdv A outer s H E) (aP st) t/\t { nx:=fun _ H'=>Q .non H',rt:=Q } (start N vs) H):FnH P w K mg base (k+1) f fd ps sp:=by
 obtain⟨oc,od,kV,doc,pm,an,cdv,ct,osl,rfl,lk,hcd⟩:=F.ex
 refine⟨len,fun A outer s H args us vs Q E hr e0 hb r hsp=>?_⟩
 have hl:=len _ _ _ _ hsp
 have KX:=e0.mod.kin.keeps fun b o e=>(e0.bs b o e).1
 have lim:=e0.mod.nolimit.keeps fun b o e=>(e0.bs b o e).1
 have hkind:∀y∈ps.zip us,(ag st).names.lookup y.1=some .local\/((ag st).names.lookup y.1=some .cell/\((cellsFrom (s.heap.objs.size+1) (ag st).names []).lookup y.1).isSome=true):=fun⟨n,v⟩ hy=>by
  rcases S.par n (Qx hy).1 with q | q
  ·grind
  ·exact .inr ⟨q,PR _ _ _ (.inl q)⟩
 have hdp:=bG.depth hr
 refine Qy hdp (KX _ _ lk) rfl S.co S.gen rfl (Sa KX hcd) (hb _ _ _ _ ?_)
 refine PX S.kind hkind fun env he s1 x=>?_
 subst he
 refine⟨lim.keeps x.toInCall.keep,SY ?_⟩
 obtain⟨t,ht,hq⟩:=hbody cdv A outer s H vs Q E (hr.deeper _) hsp
 have I0:Inv (dW CX0 P w K mg base N qual (ag st) f cdv (unm A) outer s H E) [] (start N vs) H s1:=ko S rfl ⟨e0.frames,e0.mod,e0.bs,e0.bsz,e0.g_,e0.frf,e0.hok,e0.bare⟩ hl r x
 have I:Inv (cxH P w K mg base N qual (ag st) f cdv A outer s H E) [] (start N vs) H s1:=
  ⟨⟨I0.ok.mod,I0.ok.kind,I0.ok.glob,I0.ok.blt,I0.ok.above,I0.ok.inj,I0.ok.has,I0.ok.cab,fun z=>(nomatch z),RR e0.frames,I0.ok.stk,I0.ok.exf,I0.ok.bs,I0.ok.bsz,I0.ok.pf,I0.ok.tD,I0.ok.g_,I0.ok.frf⟩,I0.os,I0.bare,I0.base,I0.loc,I0.cell,I0.free,I0.cD,I0.pin,I0.hok,I0.len⟩
 refine N6 (ht [] s1 (start N vs) H _ I hq) (fun fl s' hs=>?_) fun e s' hs=>hs.elim
 have fin:∀{σ':St} {H':Hp} {v:V} {u:NI},Inv (cxH P w K mg base N qual (ag st) f cdv A outer s H E) [] σ' H' s'->RelV v u->Q v H'->CE outer P w H s Q u s':=
  fun{σ' H' v u} J rv q=>⟨v,H',J.os,J.bare,J.base,J.hok,rv,q⟩
 cases fl with
 | ret u=>
  obtain⟨v,σ',H',J,rv,q⟩:=hs
  exact fin J rv q
 | next=>
  obtain⟨σ',H',J,q⟩:=hs
  exact fin (v:=V.non) J rfl q
 | brk=>
  obtain⟨_,_,_,q⟩:=hs
  grind
 | cont=>
  obtain⟨_,_,_,q⟩:=hs
  grind
end
section
variable {X:Cx}{k:Nat}{f:Addr}{fd:P_}{ps:List Str}{sp:Sp}{x:Str}{p pos:Pos}{e:Expr}{es:List Expr}{t:TA}
def tP (F:FnH X.prog X.w X.K X.mg X.base k f fd ps sp) (hr:bG k (unm X.A)) (hg:Gl X x) (hm:X.mg x=some (.ref f)) (hk:Om X.K (.ref f)=true) (hb:Binds X.K fd ps [])
  (ha:PA X (e::es) t) (hdb:(x == ("__debug__" : Str))=false:=by decide) (he:starEach (e::es) X.env=(false,eval e X.env)::starEach es X.env:=by rfl) (hpl:(backTo pos (starEach es X.env)).any (·.1)=false:=by rfl) :
  PE X (.Call (.Name x p) (e::es) [] pos) (Gf sp [] E0 t):=by
 intro pins s σ H Q I h
 refine Qt (fT I hg hm ?_ hdb)
 refine Ra I.ok.mod.kin hk (thn (ha pos pins s σ H _ I h) fun us s1 ⟨vs,H1,I1,r,q⟩=>⟨I1.kIn,?_⟩) he hpl
 replace q:sp vs H1 Q E0:=by simp_all
 have hl:us.length=ps.length:=by rw[<- r.length];exact F.len _ _ _ _ q
 have hbb:=hb s1 us I1.kIn (by simp_all)
 rw[O2] at hbb
 refine QF (PF (F.run X.A X.stack s1 H1 ⟨us,[]⟩ us vs Q E0 hr I1.Ig hbb r q) fun r s' hq=>?_)
 cases r with
 | error e=>exact hq.elim
 | ok fl=>
  cases fl with
  | ret u=>exact I1.after hq
  | next=>exact hq.elim
  | brk=>exact hq.elim
  | cont=>exact hq.elim
end
end L2
namespace L2
open PySem PySem.Spec PyProof.Rows PySem.W
def Ad:plainId "BaseException.__getattribute__" = true:=by decide +kernel
def AL:builtinKind "BaseException.__getattribute__" = some .slot:=by rfl
def zA:splitId "BaseException.__getattribute__" = some ("BaseException", "__getattribute__"):=by rfl
section
variable {prog:NT}{w:Oe}{A:Oa}{E:NI->NM->Prop}{s:NM}{K:Frag}{x D:Addr}{ox:Obj}{odo:Option Obj}{name:Str}
def ES (X:K.In s.heap) (I:InstAt s.heap x ox D odo) (hf:findObj K D odo name=some (.bind g0 a0)) (h:wpAny (model prog w) A (call g0 [a0,.ref x,.ref D]) (fun v s'=>Q (.done (.ret v)) s') E s) :
  wpAny (model prog w) A (Ow.«object.__getattribute__» ⟨[.ref x,.str name tk],[]⟩) Q E s:=by
 have L0:=I.type (M:=model prog w)
 have L1:=looks_find (M:=model prog w) X I hf
 refine gV (NG (gV (NG (gV (L0.at (gV (L1.at ?_)))))))
 exact gV (N9 (N6 h (fun v s' z=>NG z) fun _ _ z=>z))
def Cz (X:K.In s.heap) (I:InstAt s.heap x ox D odo) (hsub:mroIn K D (.type "BaseException")=some true) (hf:findObj K D odo name=some (.bind g0 a0))
  (h:wpAny (model prog w) A.in1 (call g0 [a0,.ref x,.ref D]) (fun v s'=>R (.ok (.ret v)) s') (fun e s'=>R (.error e) s') s) :
  codeAny (model prog w) A (.call (.builtin "BaseException.__getattribute__") ⟨[.ref x,.str name tk],[]⟩) R s:=by
 have L0:=I.type (M:=model prog w)
 have L3:Looks (model prog w) s.heap (isInstance (.ref x) (.type "BaseException")) true:=L0.andThen (Ub X hsub)
 refine QM Ad F.entry_bexc_ga ?_
 refine Ui (i:="BaseException.__getattribute__") AL zA L3 (F.args_bexc_ga (.ref x) (.str name tk)) ?_
 exact ES X I hf h
def Cp (X:K.In s.heap) (I:InstAt s.heap x ox D odo) (hga:findIn K (.ref D) "__getattribute__" = some (some (.builtin "BaseException.__getattribute__"))) (hhk:findIn K (.ref D) "__getattr__" = some none) (hsub:mroIn K D (.type "BaseException")=some true)
  (hf:findObj K D odo name=some (.bind g0 a0)) (hv:handedIn v0=true)
  (h:∀A E Q' , Q' v0 { s with toks:=s.toks+1 }->wpAny (model prog w) A (call g0 [a0,.ref x,.ref D]) Q' E { s with toks:=s.toks+1 })
  (q:Q (some v0) { s with toks:=s.toks+1 }):wpAny (model prog w) A (getAttr? (.ref x) name) Q E s:=by
 obtain⟨hh,gg,d,t,os⟩:=s
 have L0:=I.type (M:=model prog w)
 have L1:=RJ (M:=model prog w) X hga
 have L2:=RJ (M:=model prog w) X hhk
 refine gV (wpAny_mkText (gV (Ql (N9 (gV (L0.at (gV (L1.at ?_))))))))
 dsimp only
 unfold getAttrByItsOwn hookBefore
 refine gV (L2.at (gV (Ql (N9 ?_))))
 unfold callGetattribute
 unfold boundAndCalled
 refine gV (NG ?_)
 refine QF (Cz X I hsub hf (h _ _ _ ?_))
 exact handed_on hv (NG q)
end
def BG {K:Frag} (hga:findIn K (.ref D) "__getattribute__" = some (some (.builtin "BaseException.__getattribute__"))) (hhk:findIn K (.ref D) "__getattr__" = some none) (hsub:mroIn K D (.type "BaseException")=some true) (hdct:hasDictIn K D=true) (ha:findIn K (.ref D) "__class__" = some (some (.builtin "object.__class__")))
  (hn:specialIn K (.builtin "object.__class__") "__get__" = some (some (.builtin "getset_descriptor.__get__"))) (htk:takesIn K (.builtin "object.__class__")=some true) (hm:mroIn K D (.type "object")=some true) :
  KitX K (.ref x) (.ref D) (fun h=>InstAt h x ox D odo):=by
 obtain⟨cdD,hcD,_⟩:=TL hdct
 have hlk:∃c' d' cd' sl',K.lookup D=some ⟨c',d',.cls cd',sl'⟩:=by
  unfold clsIn at hcD
  grind
 obtain⟨c',d',cd',sl',ho⟩:=hlk
 refine⟨fun _ _ _ I=>I.type,fun _ _ X _=>?_,fun h tp dd its n sl X htp=>?_,fun{prog w A E Q s} X I k=>?_⟩
 ·intro A' Q' E' s' k q
  exact gV (RC (k _ _ (X _ _ ho)) (NG q))
 ·refine Bool.eq_false_iff.mpr fun q=>?_
  have e:=Ob.inj (beq_iff_eq.mp q)
  subst e
  have z:=(X _ _ ho).symm.trans htp
  cases z
 ·have hf:findObj K D odo "__class__" = some (.bind (.builtin "getset_descriptor.__get__") (.builtin "object.__class__")):=by
   unfold findObj
   simp_all
  exact Cp X I hga hhk hsub hf rfl (fun A E Q' q'=>QF (class_get (s:={ s with toks:=s.toks+1 }) X I hm q')) k
noncomputable abbrev bB:List Str:=["FallError", "NoOrder", "NoNumber", "NoSet", "NoRow", "NoLine", "NoText", "TooGreat"]
noncomputable def wy (c x:Str):Bool:=c == x || x == "FallError"
noncomputable def Cq (c:Str):Bool:=!(c == "NoText" || c == "TooGreat")
noncomputable def wt (K:Frag) (D:Addr):Bool:=findIn K (.ref D) "__getattribute__" == some (some (.builtin "BaseException.__getattribute__"))&&findIn K (.ref D) "__getattr__" == some none&&mroIn K D (.type "BaseException") == some true&&hasDictIn K D&&findIn K (.ref D) "__class__" == some (some (.builtin "object.__class__"))&&specialIn K (.builtin "object.__class__") "__get__" == some (some (.builtin "getset_descriptor.__get__"))&&takesIn K (.builtin "object.__class__") == some true&&mroIn K D (.type "object") == some true
noncomputable def FH (K:Frag) (l:List (Str × Addr)):Bool:=l.all fun p=>wt K p.2&&kitOne K (.ref p.2) (.type "ValueError") == some true&&(!Cq p.1 || excIn K p.2 bmV "ValueError.__new__")&&l.all fun q=>kitOne K (.ref p.2) (.ref q.2) == some (wy p.1 q.1)&&(!(q.1 == "FallError") || exmOne K (.ref p.2) (.ref q.2) == some true)
def By (K:Frag):Prop:=∃l:List (Str × Addr),l.map (·.1)=bB/\(∀p∈l,nsIn K mainGlobals p.1=some (some (.ref p.2)))/\FH K l=true
def Jb {K:Frag} (e0:nsIn K mainGlobals "FallError" = some (some (.ref a0))) (e1:nsIn K mainGlobals "NoOrder" = some (some (.ref a1))) (e2:nsIn K mainGlobals "NoNumber" = some (some (.ref a2))) (e3:nsIn K mainGlobals "NoSet" = some (some (.ref a3)))
  (e4:nsIn K mainGlobals "NoRow" = some (some (.ref a4))) (e5:nsIn K mainGlobals "NoLine" = some (some (.ref a5))) (e6:nsIn K mainGlobals "NoText" = some (some (.ref a6))) (e7:nsIn K mainGlobals "TooGreat" = some (some (.ref a7)))
  (c:FH K [("FallError", a0),("NoOrder", a1),("NoNumber", a2),("NoSet", a3),("NoRow", a4),("NoLine", a5),("NoText", a6),("TooGreat", a7)]=true):By K:=
 ⟨_,rfl,by
  simp_all,c⟩
structure m9 (K) (mg:Str->Option NI):Prop where
 at_:∀c∈bB,∃C,mg c=some (.ref C)
 one:∀c∈bB,∀C,mg c=some (.ref C)->wt K C=true/\kitOne K (.ref C) (.type "ValueError")=some true/\(Cq c=true->excIn K C bmV "ValueError.__new__" = true)
 two:∀c∈bB,∀C,mg c=some (.ref C)->∀x∈bB,∀X,mg x=some (.ref X)->kitOne K (.ref C) (.ref X)=some (wy c x)
 exm:∀c∈bB,∀C,mg c=some (.ref C)->∀X,mg "FallError" = some (.ref X)->exmOne K (.ref C) (.ref X)=some true
def m9.of {K:Frag} (X:K.In h) (G:h.Ns mainGlobals mg) (k:By K):m9 K mg:=by
 obtain⟨l,h1,h2,h3⟩:=k
 have mem:∀c∈bB,∀C,mg c=some (.ref C)->(c,C)∈l:=fun c hc C e=>by
  rw[<- h1] at hc
  obtain⟨p,hp,rfl⟩:=Ov.mp hc
  have:=R_ X G (h2 p hp)
  grind
 have al:=NZ.mp h3
 refine⟨fun c hc=>?_,fun c hc C e=>?_,fun c hc C e x hx D e'=>?_,fun c hc C e D e'=>?_⟩
 ·rw[<- h1] at hc
  obtain⟨p,hp,rfl⟩:=Ov.mp hc
  exact⟨_,R_ X G (h2 p hp)⟩
 ·grind
 ·grind
 ·have:=al _ (mem c hc C e)
  simp only[N5] at this
  have:=NZ.mp this.2 _ (mem "FallError" (by decide) D e')
  simp_all
def zc (ok:HOk P w H h) (q:H p=some (FE.AtO p o)) (hc:o.cls=.ref C) (hd:∃vs,o.data=.fields vs) (xf:FE.XFs H o.dict fs):∃odo,InstAt h p o C odo:=by
 obtain⟨q1,_⟩:=ok p _ q
 obtain⟨vs,hd⟩:=hd
 have nc:notCls o=true:=by unfold notCls;rw[hd]
 rcases xf with⟨z,_⟩ | ⟨dx,od,z,q2⟩
 ·exact⟨none,q1,hc,nc,by simp_all⟩
 ·obtain⟨q3,_⟩:=ok dx _ q2
  exact⟨some od,q1,hc,nc,by simp_all⟩
end L2
namespace L2.FE
open PySem PySem.Spec PyProof.Rows
section
variable {X:Cx}{g:GG}{ε:EE}{K:ND}
noncomputable def uz (x:Str):D->Hh->R D:=fun d h=>match d with
 | .exc c _=>if (bB.contains c&&bB.contains x)=true then .ok (.bl (wy c x)) h else .bad
 | _=>.bad
noncomputable def Lj:D->Hh->R D:=fun d h=>match d with
 | .exc c _=>if bB.contains c=true then .ok (.bl true) h else .bad
 | _=>.bad
def jd (h:gOf mg x=some f):mg x=some (.ref f):=by
 unfold gOf at h
 grind
def uW (hc:m9 X.K X.mg) (hgo:g=gOf X.mg):aV X (.builtin "isinstance") (fun vs H Q=>∃p D o c fs C b,vs=[.ref p,D]/\g c=some C/\H p=some (AtO p o)/\o.cls=.ref C/\(∃us,o.data=.fields us)/\XFs H o.dict fs/\bB.contains c=true/\(∀u,RelV D u->Pd X.K (.ref C) u=some b)/\Q (.bl b) H):=by
 intro pins s σ H xs us Q I r h
 obtain⟨p,D,o,c,fs,C,b,rfl,hg,hp,hcl,hd,xf,hcn,hk,q⟩:=h
 cases r with
 | @cons _ _ _ _ r1 r2=>
  cases r2 with
  | @cons _ u _ _ r3 r4=>
   cases r4
   cases r1
   obtain⟨odo,ia⟩:=zc I.hok hp hcl hd xf
   subst hgo
   have hC:=jd hg
   have k1:=(hc.one c (by simp_all) C hC).1
   unfold wt at k1
   simp only[N5,beq_iff_eq] at k1
   obtain⟨⟨⟨⟨⟨⟨⟨a1,a1b⟩,a1c⟩,a2⟩,a3⟩,a4⟩,a5⟩,a6⟩:=k1
   refine OL (BG a1 a1b a1c a2 a3 a4 a5 a6) I.kIn ia (hk u r3) (by simp) fun tk=>?_
   exact⟨.bl b,H,I.kept fun _ _ z=>z,rfl,q⟩
def IB (hg:Gl X x) (hm:X.mg x=some (.ref C)) (hd:(x == ("__debug__" : Str))=false:=by decide):PE X (.Name x p) (tC (.ref C)):=fun pins s σ H Q I h=>fT I hg hm ⟨.ref C,H,I,rfl,h⟩ hd
def iY {e:Expr}{me:ME}{x:Str}{p1 p2 pos:Pos} (hc:m9 X.K X.mg) (hgo:g=gOf X.mg) (he:PE X e (tM X.K g ε me)) (hg:Gl X "isinstance") (hm:X.mg "isinstance" = none) (hg2:Gl X x) (hx:x∈bB) (hd:(x == ("__debug__" : Str))=false:=by decide)
  (hs1:starEach [e,.Name x p2] X.env=(false,eval e X.env)::starEach [.Name x p2] X.env:=by rfl) (hs2:starEach [.Name x p2] X.env=[(false,eval (.Name x p2) X.env)]:=by rfl) (hpl:(backTo pos (starEach [.Name x p2] X.env)).any (·.1)=false:=by rfl) :
  PE X (.Call (.Name "isinstance" p1) [e,.Name x p2] [] pos) (tM X.K g ε (cUn (uz x) me)):=by
 obtain⟨C2,hC2⟩:=hc.at_ x hx
 refine PE.imp (gG (uW hc hgo) hg hm Qu (c4 he (c4 (IB hg2 hC2 hd) gF hs2) hs1) (by decide) (by decide) hs1 hpl) fun σ H Q ⟨α,env,h,s,w⟩=>tM.use s w.bind fun d1 h1 v1 H1 α1 e1 s1 r1 w1=>?_
 cases r1 with
 | @exc c C p o fs hgc hp hcl hdd xf=>
  obtain⟨hh,w1⟩:=WQ.cO w1
  rw[N5] at hh
  refine⟨p,.ref C2,o,c,fs,C,_,rfl,hgc,hp,hcl,hdd,xf,hh.1,fun u ru=>?_,aB.now (aB.ext e1 w1) s1.heap (.bl _)⟩
  cases ru
  subst hgo
  exact hc.two c (by simp_all) C (jd hgc) x hx C2 hC2
 | _=>exact w1.elim
def HE {e:Expr}{me:ME}{p1 p2 pos:Pos} (hc:m9 X.K X.mg) (hgo:g=gOf X.mg) (he:PE X e (tM X.K g ε me)) (hg:Gl X "isinstance") (hm:X.mg "isinstance" = none) (hg2:Gl X "ValueError") (hm2:X.mg "ValueError" = none)
  (hs1:starEach [e,.Name "ValueError" p2] X.env=(false,eval e X.env)::starEach [.Name "ValueError" p2] X.env:=by rfl) (hs2:starEach [.Name "ValueError" p2] X.env=[(false,eval (.Name "ValueError" p2) X.env)]:=by rfl) (hpl:(backTo pos (starEach [.Name "ValueError" p2] X.env)).any (·.1)=false:=by rfl) :
  PE X (.Call (.Name "isinstance" p1) [e,.Name "ValueError" p2] [] pos) (tM X.K g ε (cUn Lj me)):=by
 refine PE.imp (gG (uW hc hgo) hg hm Qu (c4 he (c4 (xu (v:=.ty "ValueError") hg2 hm2 PyProof.Rows.Boot.«ValueError» rfl (by decide) (by decide)) gF hs2) hs1) (by decide) (by decide) hs1 hpl) fun σ H Q ⟨α,env,h,s,w⟩=>tM.use s w.bind fun d1 h1 v1 H1 α1 e1 s1 r1 w1=>?_
 cases r1 with
 | @exc c C p o fs hgc hp hcl hdd xf=>
  obtain⟨hh,w1⟩:=WQ.cO w1
  refine⟨p,.ty "ValueError", o,c,fs,C,_,rfl,hgc,hp,hcl,hdd,xf,hh,fun u ru=>?_,aB.now (aB.ext e1 w1) s1.heap (.bl _)⟩
  cases ru
  subst hgo
  exact(hc.one c (by simp_all) C (jd hgc)).2.1
 | _=>exact w1.elim
def ug {h:Heap} (x:h.IsList l its):∃dd n sl,h.get? l=some { cls:=.type "list", dict:=dd,data:=.seq its n,slots:=sl }:=by
 obtain⟨⟨c,d,da,sl⟩,h1,h2,n,h3⟩:=x
 simp_all
noncomputable def eqB (b:Bool):NI->Bool
 | .bool c=>c == b
 | _=>false
theorem og:∀{bs:List Bool}{us:List NI},Vals (bs.map V.bl) us->us=bs.map RY
 | [],_,.nil=>rfl
 | b::bs,_,.cons r t=>by
  have e:=r
  rw[e,og t];rfl
def xk (K:ND):V->List V->Hp->VK->Prop:=fun x vs H Q=>∃(l:Addr) (bs:List Bool) (b:Bool),x=.ref l/\vs=[.bl b]/\SqL K H l (bs.map V.bl)/\Q (.int (bs.countP (· == b):Nat)) H
def zo:MtM X "list.count" (xk X.K):=by
 intro pins s σ H x vs v us Q I rx rv h
 obtain⟨l,bs,b,rfl,rfl,hq,q⟩:=h
 cases rx
 obtain⟨u,rfl,ru⟩:=rv.one
 have e0:=ru
 subst e0
 obtain⟨its,rs,pl,hz⟩:=I.list hq
 have ei:=og rs
 subst ei
 obtain⟨dd,n,sl,ho⟩:=ug pl.isList
 refine Sq F.slot_list_count ⟨_,ho,rfl⟩ F.entry_list_count (F.args_list_count_2 _ _) (SeqAt.list_countAt l _ n dd sl (.bool b) (eqB b)) ⟨ho,fun y hy=>?_,?_⟩
 ·obtain⟨c,_,rfl⟩:=Ov.mp (by simp_all:y∈bs.map RY)
  exact RS c b
 ·refine⟨.int (bs.countP (· == b):Nat),H,I.kept fun _ _ z=>z,⟨s.toks,?_⟩,q⟩
  rw[List.countP_map]
  rfl
def yn (K:ND):V->List V->Hp->VK->Prop:=fun x vs H Q=>∃(l:Addr) (bs:List Bool) (b:Bool) (j:Nat),x=.ref l/\vs=[.bl b]/\SqL K H l (bs.map V.bl)/\bs.findIdx? (· == b)=some j/\bs.length<1000000/\Q (.int (j:Nat)) H
def Ai:MtM X "list.index" (yn X.K):=by
 intro pins s σ H x vs v us Q I rx rv h
 obtain⟨l,bs,b,j,rfl,rfl,hq,hj,hlen,q⟩:=h
 cases rx
 obtain⟨u,rfl,ru⟩:=rv.one
 have e0:=ru
 subst e0
 obtain⟨its,rs,pl,hz⟩:=I.list hq
 have ei:=og rs
 subst ei
 obtain⟨dd,n,sl,ho⟩:=ug pl.isList
 obtain⟨hlt,hit,hno⟩:=List.findIdx?_eq_some_iff_getElem.mp hj
 refine Sq F.slot_list_index ⟨_,ho,rfl⟩ F.entry_list_index (F.args_list_index_2 _ _) (SeqAt.list_indexAt l _ n dd sl (.bool b) (eqB b) j (by simp_all) (by omega) ?_ ?_) ⟨ho,fun y hy=>?_,?_⟩
 ·simpa [eqB] using hit
 ·intro m hm h2
  have:=hno m h2
  simpa [eqB] using this
 ·obtain⟨c,_,rfl⟩:=Ov.mp (by simp_all:y∈bs.map RY)
  exact RS c b
 ·exact⟨.int (j:Nat),H,I.kept fun _ _ z=>z,⟨s.toks,rfl⟩,q⟩
noncomputable def qK:D->List D->Hh->R D:=fun o ds h=>match o,ds with
 | .frl xs,[.bl b]=>match k9 xs with
  | some bs=>.ok (.int (bs.countP (· == b):Nat)) h
  | none=>.bad
 | _,_=>.bad
noncomputable def rN:D->List D->Hh->R D:=fun o ds h=>match o,ds with
 | .frl xs,[.bl b]=>match k9 xs with
  | some bs=>match bs.findIdx? (· == b) with
   | some j=>if bs.length<1000000 then .ok (.int (j:Nat)) h else .bad
   | none=>.bad
  | none=>.bad
 | _,_=>.bad
def yP:CV K g ε qK (xk K):=by
 intro α H h o a y x Q r ro ra w
 unfold qK at w
 cases ro with
 | @frl ds p vs hq rs=>
  cases ra with
  | nil=>exact w.elim
  | cons rd rr=>
   cases rr with
   | cons _ _=>cases rd<;>exact w.elim
   | nil=>
    cases rd with
    | bl b=>
     simp only at w
     cases e2:k9 ds with
     | none=>rw[e2] at w;exact w.elim
     | some bs=>
      rw[e2] at w
      have e3:=iN e2
      subst e3
      have e4:=rs.Jc
      subst e4
      exact⟨p,bs,b,rfl,rfl,hq.sq,aB.now w r (.int _)⟩
    | _=>exact w.elim
 | _=>exact w.elim
def zx:CV K g ε rN (yn K):=by
 intro α H h o a y x Q r ro ra w
 unfold rN at w
 cases ro with
 | @frl ds p vs hq rs=>
  cases ra with
  | nil=>exact w.elim
  | cons rd rr=>
   cases rr with
   | cons _ _=>cases rd<;>exact w.elim
   | nil=>
    cases rd with
    | bl b=>
     simp only at w
     cases e2:k9 ds with
     | none=>rw[e2] at w;exact w.elim
     | some bs=>
      rw[e2] at w
      simp only at w
      cases e5:bs.findIdx? (· == b) with
      | none=>rw[e5] at w;exact w.elim
      | some j=>
       rw[e5] at w
       obtain⟨hl,w⟩:=WQ.cO w
       have e3:=iN e2
       subst e3
       have e4:=rs.Jc
       subst e4
       exact⟨p,bs,b,j,rfl,rfl,hq.sq,e5,hl,aB.now w r (.int _)⟩
    | _=>exact w.elim
 | _=>exact w.elim
end
end L2.FE
namespace L2
open PySem PySem.Spec PyProof.Rows
def Inv.Jr {σ:St} (J:Inv (X.wpn pn E) pins' σ H s) (hp:∀p∈X.pn++pins,p∈pn++pins'):Inv X pins σ H s:=
 ⟨⟨J.ok.mod,J.ok.kind,J.ok.glob,J.ok.blt,J.ok.above,J.ok.inj,J.ok.has,J.ok.cab,J.ok.hd,J.ok.frames,J.ok.stk,J.ok.exf,J.ok.bs,J.ok.bsz,J.ok.pf,J.ok.tD,J.ok.g_,J.ok.frf⟩,J.os,J.bare,J.base,J.loc,J.cell,J.free,J.cD,fun p h=>J.pin p (hp p h),J.hok,J.len⟩
end L2
namespace L2.FE
open PySem PySem.Spec PyProof.Rows
def Av (P:NT) (w:Oe) (K:ND) (mg:Str->Option NI) (base:Heap) (g:GG) (x:Str) (k:Nat) (ps:List Str) (m:MF):Prop:=
 ∃f fd,FnH P w K mg base k f fd ps (spM K g ps.length m)/\Om K (.ref f)=true/\Binds K fd ps []/\mg x=some (.ref f)
section
variable {P:NT}{w:Oe}{K:ND}{mg:Str->Option NI}{base:Heap}{g:GG}
def F0 {st:Stmt} (F:Fun K x qual st f fd) (S:az N ps (ag st))
  (hb:∀cdv A outer s H E , bG k (unm (A.deeper (envOfC qual (ag st) s.heap.objs.size f cdv))) →
   PSs (cxH P w K mg base N qual (ag st) f cdv A outer s H E) (aP st) (tMS K g E00 mb)):FnH P w K mg base (k+1) f fd ps (spM K g ps.length (bF N.length mb)):=by
 refine GS F S (fun vs H Q E h=>h.1) fun cdv A outer s H vs Q E hr h=>⟨_,hb cdv A outer s H E hr,?_⟩
 obtain⟨hl,α,ds,h,rs,hh,w⟩:=h
 refine tMS.use ⟨hh,ir rs⟩ w.bind fun fl h' H' α' e r kk=>?_
 cases fl with
 | nx e'=>exact fun σ' s'=>(show aB K g α H Q .non h' from kk) _ H' α' e r .non
 | bk e'=>exact kk.elim
 | ct e'=>exact kk.elim
 | rt d=>exact fun v rv=>(show aB K g α H Q d h' from kk) _ H' α' e r rv
end
section
variable {X:Cx}{g:GG}{ε:EE}
def CA {k:Nat}{f:Addr}{fd:P_}{ps:List Str}{m:MF}{np:Nat}{x:Str}{p pos:Pos}{e:Expr}{es:List Expr}{mr:MA} (F:FnH X.prog X.w X.K X.mg X.base k f fd ps (spM X.K g np m)) (hr:bG k (unm X.A)) (hg:Gl X x) (hm:X.mg x=some (.ref f)) (hk:Om X.K (.ref f)=true) (hb:Binds X.K fd ps [])
  (ha:PA X (e::es) (tMA X.K g E00 mr)) (hlen:∀env h ds h',mr env h=.ok ds h'->ds.length=np) (hdb:(x == ("__debug__" : Str))=false:=by decide) (he:starEach (e::es) X.env=(false,eval e X.env)::starEach es X.env:=by rfl) (hpl:(backTo pos (starEach es X.env)).any (·.1)=false:=by rfl) :
  PE X (.Call (.Name x p) (e::es) [] pos) (tM X.K g E00 (ah m mr)):=
 PE.imp (tP F hr hg hm hk hb ha hdb he hpl) fun σ H Q ⟨α,env,h,s,w⟩=>⟨α,env,h,s,w.bind.mono fun d1 h1 eq w1 v1 H1 α1 e1 hr1 r1=>by
  show spM X.K g np m (v1++[]) H1 Q E0
  rw[O2]
  refine⟨?_,α1,d1,h1,r1,hr1,w1.post e1⟩
  rw[<- r1.length]
  grind⟩
noncomputable def oV (mb:MS) (mr:MF):MS:=fun env h=>match mb env h with
 | .ok fl h'=>.ok fl h'
 | .err x h'=>if (bB.contains x.cls&&(h'.take h.length).all (je h.length))=true then (noR (mr [.exc x.cls x.fs] (h'.take h.length))).bind fun d h2=>.ok (.rt d) h2 else .bad
 | .bad=>.bad
def FY {body:List Stmt}{mb:MS}{mr:MF}{k:Nat}{f:Addr}{fd:P_}{ps:List Str}{i:Nat}{n y:Str}{np p1 p2 cpos rpos hpos pos:Pos}
  (hcl:m9 X.K X.mg) (hgo:g=gOf X.mg) (pl:Plain X) (hN:X.N.Nodup) (hi:X.N[i]?=some n) (hl:X.env.scope.names.lookup n=some .local) (hgF:Gl X "FallError") (hgR:Gl X y)
  (F:FnH X.prog X.w X.K X.mg X.base k f fd ps (spM X.K g 1 mr)) (hr:bG k (unm X.A)) (hm:X.mg y=some (.ref f)) (hk:Om X.K (.ref f)=true) (hb:Binds X.K fd ps [])
  (hbd:∀(pn:List (Addr × Obj)) (xe:NI->NM->Prop) (E:XK),eY (X.wpn pn xe) E->Plain (X.wpn pn xe)->Sm (model X.prog X.w) X.A X.env xe->PSs (X.wpn pn xe) body (tMS X.K g (εX g E) mb))
  (hdn:(n == ("__debug__" : Str))=false:=by decide) (hdc:(n == ("__classdict__" : Str))=false:=by decide) (hdb:(y == ("__debug__" : Str))=false:=by decide)
  (hst:starEach [.Name n p2] X.env=(false,eval (.Name n p2) X.env)::starEach [] X.env:=by rfl) (hpl:(backTo cpos (starEach [] X.env)).any (·.1)=false:=by rfl) :
  PS X (.Try body [.ExceptHandler (some (.Name "FallError" np)) (some n) [.Return (some (.Call (.Name y p1) [.Name n p2] [] cpos)) rpos] hpos] [] [] pos) (tMS X.K g ε (oV mb mr)):=by
 intro pins s σ H D I ⟨α,env,h,sr,w⟩
 obtain⟨CF,hmF⟩:=hcl.at_ "FallError" (by decide)
 refine wpAny_Try_except ?_
 let K1:NI->NM->Prop:=fun e s₁=>wpAny (model X.prog X.w) X.A (noteFrame e X.env) (fun _ s₂=>wpAny (model X.prog X.w) X.A (setFlight e none) (fun _ s₃=>wpAny (model X.prog X.w) X.A (handleBy e X.env [.ExceptHandler (some (.Name "FallError" np)) (some n) [.Return (some (.Call (.Name y p1) [.Name n p2] [] cpos)) rpos] hpos]) (SP X pins D) X.xe s₃) X.xe s₂) X.xe s₁
 let E1:XK:=fun C dc H'=>∃α' x h',mb env h=.err x h'/\Ext X.K α H α' H'/\aK X.K g α' H' h'/\(∃C0,C=.ref C0/\g x.cls=some C0)/\XFs H' dc x.fs
 have un:∀{σ:St} {H:Hp} {s:NM},Inv (X.wpn (X.pn++pins) K1) [] σ H s->Inv X pins σ H s:=fun J=>J.Jr fun p hp=>by simp_all
 have fl:eY (X.wpn (X.pn++pins) K1) E1:=by
  rintro e s1 ⟨σ1,H1,B,a,C,dc,rfl,J,ar,cv,pn,α',x,h',eq,ext,hr',⟨C0,rfl,hgC⟩,xf⟩
  have ar':Arr B (X.env::X.outer) a (.ref C0) dc s1.heap:=by rw[<- pl.stk.1];exact ar
  have hA:X.A.frames=some (X.env::X.outer):=by rw[<- pl.stk.1];exact J.ok.frames
  have pl1:Plain (X.wpn (X.pn++pins) K1):=⟨pl.ex,pl.stk⟩
  unfold oV at w
  rw[eq] at w
  obtain⟨low,w⟩:=WQ.cO w
  rw[N5] at low
  obtain⟨hcn,low⟩:=low
  refine uH hA pl.stk.2 ar' fun h2 y2 g2=>qM y2 fun h3 y3 g3=>?_
  have J3:=J.flew (t':=s1.toks) pl1 cv pn ar.stays ar.fr y3.stays (g2.trans g3)
  refine wpAny_handleBy_cons (codeAny_handlers_test ?_) (by intro q;cases q)
  have J3h:Inv ((X.wpn (X.pn++pins) K1).hand (X.A.mark (some (.ref a))) (X.pn++pins) fun _ _=>False) [] σ1 H1 { s1 with heap:=h3 }:=Inv.hand (A:=X.A.mark (some (.ref a))) J3 rfl (fun p hp=>hp) _
  refine fT J3h hgF hmF ?_
  obtain⟨ob,ws0,hob,hoc,_,_⟩:=y3.there
  have LT:PySem.W.Looks (model X.prog X.w) h3 (typeOf (.ref a)) (.ref C0):=hoc ▸ (PySem.W.Looks.ld hob).andThen .now
  have hx:PySem.W.exmOne X.K (.ref C0) (.ref CF)=some true:=by
   subst hgo
   exact hcl.exm x.cls (by simp_all) C0 (jd hgC) CF hmF
  refine(PySem.W.exm_one J3.kIn LT hx).here ?_
  refine codeAny_handlers_suite_as ?_
  refine qM y3 fun h4 y4 g4=>?_
  have J4:=J.flew (t':=s1.toks) pl1 cv pn ar.stays ar.fr y4.stays (g2.trans (g3.trans g4))
  obtain⟨oe,ws,q1,q2,q3,q4⟩:=y4.there
  have fr4:h4.FunFrames B X.stack:=by rw[pl.stk.1];exact y4.fr
  obtain⟨hn,J5⟩:=J4.adopt pl1 cv pn fr4 y4.new q1 q4
  refine gU (X:=X.wpn (X.pn++pins) K1) J5 hN hi (.inl hl) (v:=.ref a) (u:=.ref a) rfl (fun s6 J6=>?_) (.inr hl)
  have J7:Inv ((X.wpn (X.pn++pins) K1).hand (X.A.mark (some (.ref a))) (X.pn++pins) fun _ _=>False) [] (σ1.set i (some (.ref a))) (upd H1 a (AtO a oe)) s6:=Inv.hand (A:=X.A.mark (some (.ref a))) (pn:=X.pn++pins) J6 rfl (fun p hp=>hp) _
  have T:=xY (Cy (pos:=rpos) (tP (X:=(X.wpn (X.pn++pins) K1).hand (X.A.mark (some (.ref a))) (X.pn++pins) fun _ _=>False) (p:=p1) (pos:=cpos) F hr hgR hm hk hb (c4 (Bs (pos:=p2) hi (.inl hl) hdn hdc) gF hst) hdb hst hpl))
  have lenσ:i<σ1.length:=by rw[J.len];grind
  refine N6 (T [] s6 _ _ { nx:=fun _ _=>False,rt:=D.rt } J7 ⟨.ref a,by grind,?_⟩) (fun fl s7 q=>?_) fun _ _ z=>z.elim
  ·show spM X.K g 1 mr ([.ref a]++[]) (upd H1 a (AtO a oe)) D.rt E0
   have k0:α.length=h.length:=sr.heap.len
   have fz:∀p o u,H1 p=some (.frz o u)->upd H1 a (AtO a oe) p=some (.frz o u):=fun p o u z=>by rw[aw (aE z hn)];exact z
   have Lw:nB X.K α α' H1 (upd H1 a (AtO a oe)) h.length:=⟨fun m hm=>fZ ext.pre (by omega),fun p xs z=>by rw[aw (aE z hn)];exact z,fz⟩
   have kp:∀m p u,m<h.length->α'[m]?=some p->H1 p=some u->upd H1 a (AtO a oe) p=some u:=fun m p u _ _ z=>by rw[aw (aE z hn)];exact z
   have ex2:Ext X.K α H α (upd H1 a (AtO a oe)):=⟨⟨Qm _,fun p xs z=>Lw.tup p xs (ext.tup p xs z),fun p o u z=>fz p o u (ext.frz p o u z),fun p ps z=>by
    obtain⟨m,q⟩:=ext.tbl p ps z
    exact⟨m,by rw[aw (aE q hn)];exact q⟩⟩,fun p u z m nt=>by
    have:=ext.kept p u z m nt
    rw[aw (aE this hn)];omega,fun _ z m=>absurd z m⟩
   refine⟨rfl,α,[.exc x.cls x.fs],h'.take h.length,.cons (.exc hgC aL q2 ⟨ws,q4⟩ ?_) .nil,⟨?_,sr.heap.inj,fun m p ob h1 h2=>?_,hr'.tab.upd (.inl hn)⟩,?_⟩
   ·rw[q3]
    exact xf.elim .inl fun⟨dx,od,z1,z2⟩=>.inr ⟨dx,od,z1,fz _ _ _ z2⟩
   ·rw[OT,<- hr'.len,k0]
    have:=ext.pre.length_le
    omega
   ·have hm:m<h.length:=(mG h2).1
    rw[fZ ext.pre (by omega)] at h1
    exact m_ k0 ext hr' low Lw kp m p ob hm h1 h2
   ·refine((qW w.bind).ext ex2).mono fun d h2 _ kk v H2 α2 e2 r2 rd=>?_
    exact(show cH X.K g α H D (.rt d) h2 from kk) H2 α2 (ex2.trans e2) r2 v rd
  ·cases fl with
   | ret u=>
    obtain⟨v,σ7,H7,J8,rv,q⟩:=q
    obtain⟨m,hm7,_⟩:=J8.loc
    have J9:Inv X pins σ7 H7 s7:=un (Inv.back (pins:=[]) J8 J.ok fun p hp=>hp)
    refine wpAny_nameGoes_keeps hl hm7 (by rw[I.ok.kind];rfl) fun h8 v8 hn8 sb=>?_
    exact⟨v,σ7.set i none,H7,J9.forget hN hi hm7 hn8 (fun z hz=>if_neg hz) sb,rv,q⟩
   | next=>obtain⟨_,_,_,q⟩:=q;grind
   | brk=>obtain⟨_,_,_,q⟩:=q;grind
   | cont=>obtain⟨_,_,_,q⟩:=q;grind
 have I1:Inv (X.wpn (X.pn++pins) K1) [] σ H s:=I.wpn (fun p hp=>by simp_all) _
 refine N6 (hbd (X.pn++pins) K1 E1 fl ⟨pl.ex,pl.stk⟩ Sm.looking [] s σ H D I1 ⟨α,env,h,sr,?_⟩) (fun f s1 q=>?_) fun _ _ z=>z
 ·unfold oV at w
  cases eq:mb env h with
  | ok fl h'=>rw[eq] at w;exact w
  | err x h'=>exact fun α' H' e r C dc hg xf=>⟨α',x,h',eq,e,r,⟨C,rfl,hg⟩,xf⟩
  | bad=>rw[eq] at w;exact w.elim
 ·cases f with
  | next=>obtain⟨σ',H',J,q⟩:=q;exact Q8 ⟨σ',H',un J,q⟩
  | brk=>obtain⟨σ',H',J,q⟩:=q;exact⟨σ',H',un J,q⟩
  | cont=>obtain⟨σ',H',J,q⟩:=q;exact⟨σ',H',un J,q⟩
  | ret u=>obtain⟨v,σ',H',J,r,q⟩:=q;exact⟨v,σ',H',un J,r,q⟩
end
end L2.FE
namespace L2
open PySem PySem.Spec PyProof.Rows
def um (h:bG k A):bG k (unm A):=⟨rfl,h.dp,h.un,h.gd⟩
end L2
namespace L2.FE
open PySem PySem.Spec PyProof.Rows
def us0 {P:List NI->Prop} (hl:us.length=0) (h:P []):P us:=by simp_all
def us1 {P:List NI->Prop} (hl:us.length=1) (h:∀a,P [a]):P us:=by cases us with | nil=>cases hl | cons a us=>simp_all
def us2 {P:List NI->Prop} (hl:us.length=2) (h:∀a b,P [a,b]):P us:=by cases us with | nil=>cases hl | cons a us=>exact us1 (P:=fun us=>P (a::us)) (Nat.succ.inj hl) (h a)
def us3 {P:List NI->Prop} (hl:us.length=3) (h:∀a b c,P [a,b,c]):P us:=by cases us with | nil=>cases hl | cons a us=>exact us2 (P:=fun us=>P (a::us)) (Nat.succ.inj hl) (h a)
def Bu {ps:List Str} (hl:us.length=1) (h:∀a:NI,bindArgs fd ⟨[a],[]⟩=pure (ps.zip [a])):bindArgs fd ⟨us,[]⟩=pure (ps.zip us):=us1 (P:=fun us=>bindArgs fd ⟨us,[]⟩=pure (ps.zip us)) hl h
def wO {ps:List Str} (hl:us.length=2) (h:∀a b:NI,bindArgs fd ⟨[a,b],[]⟩=pure (ps.zip [a,b])):bindArgs fd ⟨us,[]⟩=pure (ps.zip us):=us2 (P:=fun us=>bindArgs fd ⟨us,[]⟩=pure (ps.zip us)) hl h
def GA {ps:List Str} (hl:us.length=3) (h:∀a b c:NI,bindArgs fd ⟨[a,b,c],[]⟩=pure (ps.zip [a,b,c])):bindArgs fd ⟨us,[]⟩=pure (ps.zip us):=us3 (P:=fun us=>bindArgs fd ⟨us,[]⟩=pure (ps.zip us)) hl h
end L2.FE
namespace PySem
open Sem (wp)
section
variable {prog:NT}{w:Oe}{A:Oa}{E:NI->NM->Prop}{h:Heap}{g:Array GenState}{d:Drawn}{t:Nat}{os:TN}
variable {nm q:Str}{C N:Addr}{bs bm bmB:List NI}{hdct:Bool}{sn:List Str}{sub:List NI}{ab:Bool}{col:Option Bool}{dd:Option Addr}{k0 k1 k2 k3 k5:Option NI}{B newId initId:String}
def lT (F:ExcBaseFacts B newId initId bmB) (T:Uu h bmB bm)
  (hC:h.get? C=some (excClassObj nm q C N bs bm hdct sn sub ab col dd k0 k1 k2 k3 k5 newId)) (hn:h.Ns N mN) (hi:mN "__init__" = some (.ref fI)) (hfI:h.get? fI=some oI) (hfc:oI.cls=.type "function")
  (hq:∀h' e,Heap.MadeExcOf h h' e (.ref C) rest->e=h.objs.size+1->h'.objs.size=h.objs.size+2->wpAny (model prog w) A (call (.ref fI) (.ref e::rest)) (fun r s'=>r=.none/\Q (.done (.ret (.ref e))) s') E ⟨h',g,d,t,os⟩) (hrest:rest.length<=sizeLine) :
  wpAny (model prog w) A (Ow.«type.__call__» ⟨.ref C::rest,[]⟩) Q E ⟨h,g,d,t,os⟩:=by
 repeat (first | with_reducible refine QH hC ?_ | with_reducible refine wpAny_madeBy_exc hC ?_ | wp_step)
 refine codeAny_call_builtin_code (Qv _ F.quiet) (wpAny_check_new_subT F T hC ?_)
 refine codeAny_exc_new_subT F T hC ?_ hrest
 have up:∀b o,h.get? b=some o->((h.push { cls:=.type "tuple", data:=.seq rest.toArray }).push { cls:=.ref C,data:=.fields #[.ref h.objs.size,.none,.none,.none,.bool false,.none] }).get? b=some o:=fun b o z=>NF _ (NF _ z)
 have hC1:=up _ _ hC
 have hfI1:=up _ _ hfI
 have hn1:=hn.keeps up
 have hget:((h.push { cls:=.type "tuple", data:=.seq rest.toArray }).push { cls:=.ref C,data:=.fields #[.ref h.objs.size,.none,.none,.none,.bool false,.none] }).get? (h.objs.size+1)=some { cls:=.ref C,data:=.fields #[.ref h.objs.size,.none,.none,.none,.bool false,.none] }:=by heap_get
 have hcC:(Ob C::bm).contains (.ref C)=true:=by simp
 have T1:=T.keeps up
 repeat (first | with_reducible refine QH hget ?_ | (with_reducible refine wpAny_isSubtype_exc hC1 ?_;rw[hcC]) | wp_step)
 refine wpAny_typeLookup_tail hC1 hn1 T1 F.mroIs F.init.lookup ?_
 rw[hi]
 refine N9 (gV ?_)
 refine gV (QZ (T:="function") ⟨_,hfI1,hfc⟩ ?_)
 rw[if_pos (by decide)]
 refine NG (gV (N6 (hq _ (h.objs.size+1) ⟨up,QL (Ts _),h.objs.size,hget,QL (NK _),?_⟩ rfl (by simp)) (fun r s' hr=>?_) fun _ _ x=>x))
 ·exact NF _ (Heap.get?_push_at rfl rfl)
 ·obtain⟨rfl,hQ⟩:=hr
  wp_walk
  exact hQ
def wD (F:ExcBaseFacts B newId initId bmB) (T:Uu h bmB bm)
  (hC:h.get? C=some (excClassObj nm q C N bs bm hdct sn sub ab col dd k0 k1 k2 k3 k5 newId)) (hn:h.Ns N mN) (hi:mN "__init__" = some (.ref fI)) (hfI:h.get? fI=some oI) (hfc:oI.cls=.type "function")
  (hq:∀h' e,Heap.MadeExcOf h h' e (.ref C) rest->e=h.objs.size+1->h'.objs.size=h.objs.size+2->wpAny (model prog w) (A.under (.builtin "type.__call__" ⟨.ref C::rest,[]⟩)) (call (.ref fI) (.ref e::rest)) (fun r s'=>r=.none/\Q (.ref e) s') E ⟨h',g,d,t,os⟩) (hrest:rest.length<=sizeLine) :
  wpAny (model prog w) A (call (.ref C) rest) Q E ⟨h,g,d,t,os⟩:=by
 have f1:=tc_lookup
 have f2:=tc_bind (.ref C)
 refine QF (R5 ?_)
 repeat (any_goals (first | assumption | with_reducible refine QH hC ?_ | wp_step))
 refine⟨rfl,?_⟩
 refine codeAny_call_builtin_at (Qv _ (by simp)) entry_typeCall (wpAny_check_type_call_sub hC (lT (hrest:=hrest) F T hC hn hi hfI hfc fun h' e hm he hs=>?_))
 exact hq h' e hm he hs
end
end PySem
namespace PySem.W
open PySem PySem.Calls PyProof.Rows PySem.Spec Builtin Builtin.ObjectAttr
noncomputable abbrev JZ:List NI:=[.type "ValueError", .type "Exception", .type "BaseException", .type "object"]
noncomputable def BS:NI->Bool
 | .ref _=>true
 | _=>false
noncomputable def nZ (l:List NI):Bool:=l.dropWhile BS == JZ
def gH (e:nZ l=true):l=JZ\/∃c r,l=.ref c::r/\nZ r=true:=by
 cases l with
 | nil=>cases e
 | cons a r=>
  by_cases h:BS a=true
  ·cases a with
   | ref c=>exact .inr ⟨c,r,rfl,by assumption⟩
   | _=>cases h
  ·unfold nZ at e
   simp_all
theorem i7 (self:NI):∀(n:Nat){l:List NI},l.length<=n->nZ l=true->refuseLoop self "__setattr__" l=pure ()
 | 0,l,hl,e=>by
  have:l=[]:=OM (by omega)
  subst this;cases e
 | n+1,l,hl,e=>by
  rcases gH e with rfl | ⟨c,r,rfl,e'⟩
  ·exact PySem.F.store_ValueError.passes self
  ·rw[refuseLoop_ref];exact i7 self n (by simp_all) e'
theorem pT:∀n {l:List NI},l.length<=n->nZ l=true->l.contains (.type "object")=true
 | 0,l,hl,e=>by
  have:l=[]:=OM (by omega)
  subst this;cases e
 | n+1,l,hl,e=>by
  rcases gH e with rfl | ⟨c,r,rfl,e'⟩
  ·simp
  ·rw[List.contains_cons,pT n (by simp_all) e',Bool.or_true]
noncomputable def e_ (K:Frag) (C:Addr):Bool:=(clsIn K C).any fun cd=>nZ cd.mro
section
variable {K:Frag}{prog:NT}{w:Oe}{A:Oa}{R:Result->NM->Prop}{s:NM}{x C:Addr}
def pB (X:K.In s.heap) (I:InstAt s.heap x ox C od) (hp:e_ K C=true) (ht:takerIn K C name=some none)
  (h:∀b,wpAny (model prog w) A.in1 (storeInOwnDict (.ref x) (.ref C) (.str name tk) name v b)
   (fun fin s'=>match fin with | .done f=>R (.ok f) s' | .again c'=>c'.quiet=true/\codeAny (model prog w) A c' R s') (fun e s'=>R (.error e) s') s) :
  codeAny (model prog w) A (.call (.builtin "object.__setattr__") ⟨[.ref x,.str name tk,v],[]⟩) R s:=by
 have SF:=PySem.F.store_object
 obtain⟨cd,hc,ho⟩:=TL hp
 have ne:cd.mro.isEmpty=false:=by cases q:cd.mro with | nil=>rw[q] at ho;cases ho | cons _ _=>rfl
 have sub:Looks (model prog w) s.heap (isInstance (.ref x) (.type "object")) true:=I.type.andThen (Ub X (by unfold mroIn;rw[hc,Option.bind_some,if_neg (by simp_all),pT _ (NK _) ho]))
 refine QM SF.slot.plain SF.entry (@Ui (model prog w) _ _ s "object.__setattr__" "object" "__setattr__" (.ref x) [.str name tk,v] [] _ SF.kind SF.split sub (SF.args (.ref x) (.str name tk) v) ?_)
 obtain⟨attr,ha,hr⟩:=Option.bind_eq_some_iff.mp ht
 have hm:Looks (model prog w) s.heap (mroOf (.ref C)) cd.mro:=(Tt X hc).andThen .now
 have L3:Looks (model prog w) s.heap (storeTaker? attr) none:=by
  cases attr with
  | none=>exact .now
  | some a=>
   obtain⟨b,hb,hz⟩:=Pk.mp hr
   refine(looks_takesIn X hb).andThen ?_
   cases b with
   | true=>cases hz
   | false=>exact .now
 rw[osa_eq,refuse_eq]
 refine gV (gV (I.type.here (gV (hm.here ?_))))
 rw[i7 _ _ (NK _) ho]
 refine NG (gV (I.type.here (gV ((RJ X ha).here (gV (L3.here ?_))))))
 exact h _
def Bq (X:K.In s.heap) (hx:s.heap.get? x=some { cls:=.ref C,data:=.fields ws })
  (hs:findIn K (.ref C) "__setattr__" = some (some (.builtin "object.__setattr__"))) (hp:e_ K C=true) (ht:takerIn K C name=some none) (hh:hasDictIn K C=true)
  (h:∀h',h'.get? x=some { cls:=.ref C,dict:=some s.heap.objs.size,data:=.fields ws }->h'.Ns1 s.heap.objs.size (fun y=>if y=name then some v else none) →
   (∀b o,b≠x->s.heap.get? b=some o->h'.get? b=some o)->∀t',Q () { s with heap:=h',toks:=t' }) :
  wpAny (model prog w) A (setAttr (.ref x) name v) Q E s:=by
 have I:InstAt s.heap x { cls:=.ref C,data:=.fields ws } C none:=⟨hx,rfl,rfl,P1⟩
 refine set_plain X I hs (pB (s:={ s with toks:=s.toks+1 }) X I hp ht fun b=>?_)
 obtain⟨cd,hc,hd'⟩:=TL hh
 refine gV (NG (gV (gV (RC hx (gV (Tg (s:={ s with toks:=s.toks+1 }) (Tt X hc) ?_))))))
 rw[hd']
 have hx1:(s.heap.push { cls:=.type "dict", data:=.dict #[] }).get? x=some { cls:=.ref C,data:=.fields ws }:=NF _ hx
 have hxs:=NU (NJ hx)
 refine gV (wpAny_alloc' ?_)
 refine gV (wpAny_update' hx1 ?_)
 refine NG ?_
 have hgd:((s.heap.push { cls:=.type "dict", data:=.dict #[] }).update x fun o=>{ cls:=o.cls,dict:=some s.heap.objs.size,data:=o.data,slots:=o.slots }).get? s.heap.objs.size=some { cls:=.type "dict", data:=.dict #[] }:=
  (R6 _ _ _ _ hxs.symm).trans (Heap.get?_push_at rfl rfl)
 have hnd:((s.heap.push { cls:=.type "dict", data:=.dict #[] }).update x fun o=>{ cls:=o.cls,dict:=some s.heap.objs.size,data:=o.data,slots:=o.slots }).Ns s.heap.objs.size (fun _=>none):=
  ⟨_,#[],_,hgd,rfl,fun e he=>absurd he (by simp),fun _=>rfl⟩
 refine gV (NG (gV (wpAny_nsSet1 (Heap.Ns1.of_empty hnd) fun h' hn' hs'=>?_)))
 obtain⟨oD,esD,epD,hoD,hdD,hcD⟩:=hn'.count (Rz name v RG.nil)
 refine gV (wpAny_lookBehind hoD (by rw[hdD];exact pastItsLine_dict (N4 hcD (by simp))) ?_)
 refine NG (h h' ?_ ?_ (fun b o hb z=>?_) _)
 ·refine(hs'.2 x hxs).trans ?_
  exact Oy _ hx1 rfl
 ·omega
 ·exact(hs'.2 b (NU (NJ z))).trans ((R6 _ _ _ _ hb).trans (NF _ z))
def CP (X:K.In s.heap) (hx:s.heap.get? x=some { cls:=.ref C,dict:=some dx,data:=.fields ws }) (hne:dx≠x) (hn:s.heap.Ns1 dx mA) (hw:RG mA ns) (hsz:ns.length<=1000)
  (hs:findIn K (.ref C) "__setattr__" = some (some (.builtin "object.__setattr__"))) (hp:e_ K C=true) (ht:takerIn K C name=some none) (hh:hasDictIn K C=true)
  (h:∀h',h'.get? x=some { cls:=.ref C,dict:=some dx,data:=.fields ws }->h'.Ns1 dx (fun y=>if y=name then some v else mA y) →
   (∀b o,b≠dx->s.heap.get? b=some o->h'.get? b=some o)->∀t',Q () { s with heap:=h',toks:=t' }) :
  wpAny (model prog w) A (setAttr (.ref x) name v) Q E s:=by
 obtain⟨od,_,_,hod,_⟩:=id hn
 have I:InstAt s.heap x { cls:=.ref C,dict:=some dx,data:=.fields ws } C (some od):=⟨hx,rfl,rfl,hod⟩
 refine set_plain X I hs (pB (s:={ s with toks:=s.toks+1 }) X I hp ht fun b=>?_)
 obtain⟨cd,hc,hd'⟩:=TL hh
 refine gV (NG (gV (gV (RC hx (gV (Tg (s:={ s with toks:=s.toks+1 }) (Tt X hc) ?_))))))
 rw[hd']
 refine NG (gV (NG (gV ?_)))
 refine wpAny_nsSet1 (s:={ s with toks:=s.toks+1 }) hn fun h' hn' hs'=>?_
 obtain⟨oD,esD,epD,hoD,hdD,hcD⟩:=hn'.count (Rz name v hw)
 refine gV (wpAny_lookBehind hoD (by rw[hdD];exact pastItsLine_dict (N4 hcD (by rw[OJ,OY];omega))) ?_)
 exact NG (h h' ((hs'.2 x hne.symm).trans hx) hn' (fun b o hb z=>(hs'.2 b hb).trans z) _)
end
end PySem.W
namespace PySem
open Sem (wp)
section
variable {M:Model}{A:Oa}{E:NI->NM->Prop}{env:Env}
variable {nm q:Str}{C N:Addr}{bs bm:List NI}{hdct:Bool}{sn:List Str}{sub:List NI}{ab:Bool}{col:Option Bool}{dd:Option Addr}{k0 k1 k2 k3 k5:Option NI}{newId:String}
def gZ (hbase:bm.contains (.type "BaseException")=true) (hh:A.handled=none)
  (h:wpAny M A x (fun v s₁=>∃e oe,v=.ref e/\s₁.heap.get? C=some (excClassObj nm q C N bs bm hdct sn sub ab col dd k0 k1 k2 k3 k5 newId)/\s₁.heap.get? e=some oe/\oe.cls=.ref C/\(∃ws,oe.data=.fields ws/\ws[1]?=some .none)/\E (.ref e) s₁) E s) :
  wpAny M A (raiseStmt env (some x) none) Q E s:=by
 have hcB:(Ob C::bm).contains (.type "BaseException")=true:=by simp_all
 refine gV (N6 h (fun v s₁ h₁=>?_) fun _ _ x=>x)
 obtain⟨e,⟨ec,ed,eda,esl⟩,rfl,hC,he,hcl,⟨ws,hda,hw1⟩,hE⟩:=h₁
 subst hcl hda
 repeat (first | with_reducible refine QH he ?_ | with_reducible refine QH hC ?_ | (with_reducible refine wpAny_isSubtype_exc hC ?_;rw[hcB]) | wp_step)
 rw[hw1]
 refine NG ?_
 refine NG ?_
 exact wpAny_raiseNew_none hh hE
end
section
variable {prog:NT}{w:Oe}{A:Oa}{E:NI->NM->Prop}{s:NM}{env:Env}
variable {nm q:Str}{C N:Addr}{bs bm bmB:List NI}{hdct:Bool}{sn:List Str}{sub:List NI}{ab:Bool}{col:Option Bool}{dd:Option Addr}{k0 k1 k2 k3 k5:Option NI}{newId:String}
def wM
  (hbase:bm.contains (.type "BaseException")=true) (hh:A.handled=none) (hplain:(backTo cpos (starEach args env)).any (·.1)=false)
  (h:wpAny (model prog w) A (eval (.Name x np) env) (fun f s₁=>f=.ref C/\wpAny (model prog w) A (evalArgs (.ref C) true (backTo cpos (starEach args env)) [])
   (fun a s₂=>a.kw=[]/\s₂.heap.get? C=some (excClassObj nm q C N bs bm hdct sn sub ab col dd k0 k1 k2 k3 k5 newId) ∧
    wpAny (model prog w) A (call (.ref C) a.pos) (fun v s₃=>s₃.heap.get? C=some (excClassObj nm q C N bs bm hdct sn sub ab col dd k0 k1 k2 k3 k5 newId)/\∃e oe,v=.ref e/\s₃.heap.get? e=some oe/\oe.cls=.ref C/\(∃ws,oe.data=.fields ws/\ws[1]?=some .none)/\E (.ref e) s₃) E s₂) E s₁) E s) :
  wpAny (model prog w) A (exec (.Raise (some (.Call (.Name x np) args [] cpos)) none pos) env) Q E s:=by
 first
  | refine gV (OV (gZ (C:=C) (nm:=nm) (q:=q) (N:=N) (bs:=bs) (hdct:=hdct) (sn:=sn) (sub:=sub) (ab:=ab) (col:=col) (dd:=dd) (k0:=k0) (k1:=k1) (k2:=k2) (k3:=k3) (k5:=k5) (newId:=newId) hbase hh (gV (N6 (wpAny_Call_ofName (N6 h (fun f s₁ h₁=>?_) fun _ _ x=>x)) (fun v s₃ h₃=>gV (OV (NG h₃))) fun _ _ x=>x))))
  | (simp only[TQ];refine gV (OV (gZ hbase hh (gV (N6 (wpAny_Call_ofName (N6 h (fun f s₁ h₁=>?_) fun _ _ x=>x)) (fun v s₃ h₃=>gV (OV (NG h₃))) fun _ _ x=>x)))))
 obtain⟨rfl,h₁⟩:=h₁
 refine gV (N9 (N6 h₁ (fun a s₂ h₂=>gV (OV ?_)) fun _ _ x=>x))
 obtain⟨apos,akw⟩:=a
 obtain⟨hkw,hC,h₂⟩:=h₂
 obtain rfl:akw=[]:=hkw
 simp only[hplain]
 refine gV (wpAny_keeperOf_exc hC ?_)
 refine gV (N6 h₂ (fun v s₃ h₃=>gV (N9 (wpAny_point (NG ?_)))) fun _ _ x=>x)
 simp_all
end
end PySem
namespace L2
open PySem PySem.Spec PyProof.Rows PySem.W
def wG {K:ND} (X:K.In h) (G:h.Ns N mg) (e:nsIn K N n=some (some v)):mg n=some v:=by
 obtain⟨o,es,ep,ho,hd,_,hf⟩:=G
 unfold nsIn at e
 split at e
 ·rename_i c d es' n' sl q
  have:=X _ _ q
  rw[ho] at this
  cases this
  cases hd
  split at e
  ·rename_i en he
   cases e
   rw[<- hf]
   unfold nsFind findBy
   simp_all
  simp_all
 grind
noncomputable def mR (K:ND) (C fI:Addr):Bool:=match K.lookup C with
 | some ⟨.type "type", _,.cls cd,sl⟩=>(match cd.mro,sl.toList with
  | .ref C'::bm,[_,_,_,_,some (.builtin n),_]=>C' == C&&n == "ValueError.__new__" && !cd.hasDel&&tailIn K bmV bm&&nsOkIn K cd.ns&&nsIn K cd.ns "__init__" == some (some (.ref fI))
  | _,_=>false)
 | _=>false
def sQ {K:ND} (X:K.In h) (q:mR K C fI=true) :
  ∃bm N nm q' bs hdct sn sub ab col dd k0 k1 k2 k3 k5 mN,h.get? C=some (excClassObj nm q' C N bs bm hdct sn sub ab col dd k0 k1 k2 k3 k5 "ValueError.__new__")/\h.Ns N mN/\mN "__init__" = some (.ref fI)/\Uu h bmV bm:=by
 unfold mR at q
 split at q
 ·rename_i dd cd sl ho
  split at q
  ·rename_i C' bm k0 k1 k2 k3 n k5 hm hs
   simp only[N5,beq_iff_eq,Bool.not_eq_true'] at q
   obtain⟨⟨⟨⟨⟨rfl,rfl⟩,hdel⟩,ht⟩,hok⟩,hni⟩:=q
   obtain⟨nm,bs,mro,ns,qn,hd,sn,sub,ab,col,del⟩:=cd
   subst hm hdel
   obtain rfl:sl = #[k0,k1,k2,k3,some (.builtin "ValueError.__new__"),k5]:=by
    grind
   exact⟨bm,ns,nm,qn,bs,hd,sn,sub,ab,col,dd,k0,k1,k2,k3,k5,_,X _ _ ho,.of_isNs (isNs_of_in X hok),wG X (.of_isNs (isNs_of_in X hok)) hni,tail_of_in X ht⟩
  grind
 grind
inductive jt:List Stmt->List Str->Prop
 | nil:jt [] []
 | cons {r:List Stmt} {fs:List Str}:(f == ("__debug__" : Str))=false->jt r fs->jt (.Assign [.Attribute (.Name "self" p1) f p2] (.Name f p3) p4::r) (f::fs)
noncomputable def bO:Stmt->Stmt
 | .ClassDef _ _ _ (st::_) ..=>st
 | st=>st
structure Fq (K) (x:Str) (cst) (C) (fs):Prop where
 ex:∃fI fd qual,mR K C fI=true/\Fun K "__init__" qual (bO cst) fI fd/\Binds K fd ("self" :: fs) []/\typeIn K (.ref fI)=some (.type "function")
 sc:az ("self" :: fs) ("self" :: fs) (ag (bO cst))
 loc:∀y∈("self" : Str)::fs,(ag (bO cst)).names.lookup y=some .local
 body:jt (aP (bO cst)) fs
 sa:findIn K (.ref C) "__setattr__" = some (some (.builtin "object.__setattr__"))
 ov:e_ K C=true
 tk:∀f∈fs,takerIn K C f=some none
 hd:hasDictIn K C=true
 ne:fs≠[]
section
variable {K:ND}{prog:NT}{w:Oe}{A:Oa}{E:NI->NM->Prop}{C:Addr}{env:Env}{m:Str->Option NI}{e:Addr}{ws:Array NI}
def jK (hk:env.scope.kind=.function) (hl:env.kindOf y=some .local) (hn:s.heap.Ns env.locals m) (hv:m y=some v) (hd:(y == ("__debug__" : Str))=false) (h:Q v s):wpAny (model prog w) A (eval (.Name y p) env) Q E s:=
 Sk (RQ hk hl hn hv h) hd
def yh {h h':Heap}{a:Addr}{m:Str->Option NI} (n:h.Ns a m) (k:∀o,h.get? a=some o->h'.get? a=some o):h'.Ns a m:=let ⟨o,es,ep,q,r⟩:=n;⟨o,es,ep,k o q,r⟩
theorem qq (hk:env.scope.kind=.function) (hls:env.kindOf "self" = some .local) (sa:findIn K (.ref C) "__setattr__" = some (some (.builtin "object.__setattr__"))) (ov:e_ K C=true) (hd:hasDictIn K C=true){dx:Addr} (hms:m "self" = some (.ref e)) (hne:dx≠e) (hLe:env.locals≠e) (hLd:env.locals≠dx) :
  ∀{body:List Stmt} {fs:List Str} (_:jt body fs) (_:∀f∈fs,takerIn K C f=some none/\env.kindOf f=some .local) {us:List NI} (_:us.length=fs.length) (_:∀(i:Nat) (f:Str) (u:NI),fs[i]?=some f->us[i]?=some u->m f=some u) {mA:Str->Option NI} {ns:List Str} (_:RG mA ns) (_:ns.length+fs.length<=1000) {s:NM} {Q:Flow->NM->Prop}
   (_:K.In s.heap) (_:∀a o,K.lookup a=some o->a≠dx) (_:s.heap.get? e=some { cls:=.ref C,dict:=some dx,data:=.fields ws }) (_:s.heap.Ns1 dx mA) (_:s.heap.Ns env.locals m)
   (_:∀h',h'.get? e=some { cls:=.ref C,dict:=some dx,data:=.fields ws }->h'.Ns1 dx ((fs.zip us).foldl (fun mA (p:Str × NI) y=>if y=p.1 then some p.2 else mA y) mA)->(∀b o,b≠dx->s.heap.get? b=some o->h'.get? b=some o)->∀t',Q .next { s with heap:=h',toks:=t' }),
   wpAny (model prog w) A (execs body env) Q E s
 | _,_,.nil,_,us,_,_,mA,ns,_,_,s,Q,X,_,hx,hn,_,h=>Q8 (h s.heap hx hn (fun _ _ _ z=>z) s.toks)
 | _,_,.cons hdb ib,hf,[],hl,_,mA,ns,_,_,s,Q,_,_,_,_,_,_=>by cases hl
 | _,_,.cons (f:=f) hdb ib,hf,u::us,hl,hm,mA,ns,hw,hz,s,Q,X,hK,hx,hn,hL,h=>by
  refine RM (plainObj_wpAny_Assign_Attribute ?_ rfl)
  refine jK hk (hf f (by simp)).2 hL (hm 0 f u rfl rfl) hdb (jK hk hls hL hms (by decide) ?_)
  refine CP X hx hne hn hw (by omega) sa ov (hf f (by simp)).1 hd fun h1 q1 q2 q3 t1=>?_
  refine qq hk hls sa ov hd hms hne hLe hLd ib (fun y hy=>hf y (by simp[hy])) (by simp_all) (fun i y v a b=>hm (i+1) y v a b) (Rz f u hw) (by grind) (s:={ s with heap:=h1,toks:=t1 })
   (fun a o z=>q3 a o (hK a o z) (X a o z)) hK q1 q2 (yh hL fun o z=>q3 _ o hLd z) fun h' r1 r2 r3 t'=>?_
  exact h h' r1 r2 (fun b o hb z=>r3 b o hb (q3 b o hb z)) t'
end
noncomputable abbrev mkM (ps:List (Str × NI)):Str->Option NI:=ps.foldl (fun mA (p:Str × NI) y=>if y=p.1 then some p.2 else mA y) fun _=>none
noncomputable abbrev ws0 (t:Addr):Array NI:=#[.ref t,.none,.none,.none,.bool false,.none]
def CD {K:ND}{prog:NT}{w:Oe}{A:Oa}{E:NI->NM->Prop}{x:Str}{cst:Stmt}{C:Addr}{fs:List Str}{s:NM}{us:List NI}{Q:NI->NM->Prop}{k:Nat} (ci:Fq K x cst C fs) (X:K.In s.heap) (lim:s.heap.NoLimit) (hr:bG (k+2) A) (hl:us.length=fs.length) (hz:fs.length<=1000)
  (h:∀h' e dx t t',(∀b o,s.heap.get? b=some o->h'.get? b=some o)->s.heap.objs.size<=e->s.heap.objs.size<=dx->dx≠e->h'.get? e=some { cls:=.ref C,dict:=some dx,data:=.fields (ws0 t) }->h'.Ns1 dx (mkM (fs.zip us))->Q (.ref e) { s with heap:=h',toks:=t' }) :
  wpAny (model prog w) A (call (.ref C) us) Q E s:=by
 obtain⟨fI,fd,qual,hex,F,hb,hty⟩:=ci.ex
 obtain⟨bm,N,nm,q',bs,hdct,sn,sub,ab,col,dd,k0,k1,k2,k3,k5,mN,hC,hN,hi,T⟩:=sQ X hex
 obtain⟨oc,od,kV,doc,pm,an,cdv,ct,osl,rfl,lk,hcd⟩:=F.ex
 have hfc:oc=.type "function" := by
  have z:(K.lookup fI).map (·.cls)=some (.type "function"):=hty
  simp_all
 obtain⟨h0,g,d,t,os⟩:=s
 have S:=ci.sc
 have lim2:us.length<=sizeLine:=by rw[OY];omega
 refine wD (F:=P0) T hC hN hi (X _ _ lk) hfc (fun h1 e me hee hsz=>?_) lim2
 have X1:=X.keeps me.keeps
 obtain⟨t0,he,htn,_⟩:=me.there
 have hkind:∀y∈(("self" : Str)::fs).zip (Ob e::us),(ag (bO cst)).names.lookup y.1=some .local\/((ag (bO cst)).names.lookup y.1=some .cell/\((cellsFrom (h1.objs.size+1) (ag (bO cst)).names []).lookup y.1).isSome=true):=fun⟨n,v⟩ hy=>.inl (ci.loc n (Qx hy).1)
 have hbb:=hb ⟨h1,g,d,t,os⟩ (Ob e::us) X1 (by simp[hl])
 rw[O2] at hbb
 refine QF (Qy (hr.make C us []).depth (X1 _ _ lk) rfl S.co S.gen rfl (codeRec_of X1 hcd) (hbb _ _ _ _ ?_))
 refine PX S.kind hkind fun env henv s1 x1=>?_
 subst henv
 refine⟨(lim.keeps me.keeps).keeps x1.toInCall.keep,SY ?_⟩
 have ks:=x1.toInCall.keep
 have X2:=X1.keeps ks
 have he1:=ks _ _ he
 have hL:s1.heap.Ns h1.objs.size (bindL (envOfC qual (ag (bO cst)) h1.objs.size fI cdv).kindOf ((("self" : Str)::fs).zip (Ob e::us)) (fun _=>none)):=x1.toInCall.ns
 obtain⟨hp1,tk1,rfl⟩:=x1.toInCall.same
 have kindL:∀y∈("self" : Str)::fs,(envOfC qual (ag (bO cst)) h1.objs.size fI cdv).kindOf y=some .local:=ci.loc
 have hms:bindL (envOfC qual (ag (bO cst)) h1.objs.size fI cdv).kindOf ((("self" : Str)::fs).zip (Ob e::us)) (fun _=>none) "self" = some (.ref e):=h_ (i:=0) S.nd rfl rfl (kindL _ (by simp))
 have hmf:∀(i:Nat) (f:Str) (u:NI),fs[i]?=some f->us[i]?=some u->bindL (envOfC qual (ag (bO cst)) h1.objs.size fI cdv).kindOf ((("self" : Str)::fs).zip (Ob e::us)) (fun _=>none) f=some u:=fun i f u a b=>
  h_ (i:=i+1) S.nd (by simp_all) (by simp_all) (kindL f (by grind))
 have hLe:=Pu (NJ he)
 have hse:h0.objs.size<=e:=by simp_all
 have ib:=ci.body
 have tkf:=ci.tk
 obtain⟨f,fs,rfl⟩:∃f fs',fs=f::fs':=by
  cases fs with
  | nil=>exact absurd rfl ci.ne
  | cons f r=>simp
 obtain⟨u,us,rfl⟩:∃u us',us=u::us':=by
  cases us with
  | nil=>cases hl
  | cons u r=>simp
 generalize aP (bO cst)=body at ib ⊢
 cases ib with
 | cons hdb ib=>
  refine RM (plainObj_wpAny_Assign_Attribute ?_ rfl)
  refine jK S.kind (kindL f (by simp)) hL (hmf 0 f u rfl rfl) hdb (jK S.kind (kindL _ (by simp)) hL hms (by decide) ?_)
  refine Bq X2 he1 ci.sa ci.ov (tkf f (by simp)) ci.hd fun h2 q1 q2 q3 t2=>?_
  have hLk:=fun o z=>q3 _ o hLe z
  have lt1:h1.objs.size<hp1.objs.size:=let ⟨o,_,_,q,_⟩:=hL;NJ q
  refine qq (e:=e) S.kind (kindL _ (by simp)) ci.sa ci.ov ci.hd (dx:=hp1.objs.size) hms (Pu (NJ he1)) hLe (NU lt1) ib (fun y hy=>⟨tkf y (by simp[hy]),kindL y (by simp[hy])⟩) (us:=us) (by simp_all) (fun i y v a b=>hmf (i+1) y v a b) (ns:=[f]) (Rz f u RG.nil) (by grind) (s:={ heap:=h2,gens:=g,drawn:=d,toks:=t2,os:=os })
   (fun a o z=>q3 a o (fun z2=>?_) (X2 a o z)) (fun a o z=>NU (NJ (X2 a o z))) q1 q2 (yh hL hLk) fun h3 r1 r2 r3 t3=>?_
  ·exact absurd (z2 ▸ NJ (X a o z):e<h0.objs.size) (Qn hse)
  ·refine⟨rfl,h h3 e hp1.objs.size t0 t3 (fun b o z=>r3 b o (NU (NJ (ks _ _ (me.keeps _ _ z)))) (q3 b o ?_ (ks _ _ (me.keeps _ _ z)))) hse ?_ (Pu (NJ he1)) r1 r2⟩
   ·rintro rfl;have:=me.new;rw[this] at z;cases z
   grind
theorem AI (y:Str):∀(ps:List (Str × NI)) (mA:Str->Option NI),(ps.map (·.1)).Nodup->(ps.foldl (fun mA (p:Str × NI) y=>if y=p.1 then some p.2 else mA y) mA) y=(match ps.lookup y with | some v=>some v | none=>mA y)
 | [],mA,_=>rfl
 | (f,v)::r,mA,nd=>by
  rw[Qg,AI y r _ (Ox.mp nd).2]
  grind
theorem mM:∀{fs:List Str}{is:List Int}{us:List NI},Vals (is.map V.int) us->∀y,ja (((fs.zip is).map fun x=>(x.1,V.int x.2)).lookup y) ((fs.zip us).lookup y)
 | [],_,_,_,y=>P1
 | f::fs,[],us,r,y=>by cases r;exact P1
 | f::fs,i::is,_,.cons a r,y=>by
  simp only[List.zip_cons_cons,NR,List.lookup]
  cases h:y == f with
  | true=>exact a
  | false=>exact mM r y
def vM {σ:St}{e dx:Addr} (p:Plain X) (fl:eY X E) (I:Inv X pins σ H s) (k:∀b o,s.heap.get? b=some o->h'.get? b=some o)
  (he:s.heap.objs.size<=e) (hdx:s.heap.objs.size<=dx) (ne:dx≠e) (q1:h'.get? e=some oe) (q2:oe.cls=C) (q3:oe.dict=some dx) (q4:oe.data=.fields ws) (q5:ws[1]?=some .none) (new:a_ X.prog X.w (upd H dx (.frz od (.xd fs))) h' dx (.frz od (.xd fs)))
  (q:E C (some dx) (upd H dx (.frz od (.xd fs)))):X.xe (.ref e) { s with heap:=h',toks:=t' }:=by
 have I1:Inv X pins σ (upd H dx (.frz od (.xd fs))) { s with heap:=h',toks:=t' }:=I.laid k hdx new
 have fr:=I1.stack
 have nfr:=I1.jz
 have hHe:upd H dx (.frz od (.xd fs)) e=none:=by rw[aw (Q7 ne)];exact I.hok.fresh he
 refine fl _ _ ⟨σ,_,RZ h' (e::frs X.stack),e,C,some dx,rfl,I1.drop,.inl ⟨fun b o z=>Q6 _ z,PySem.W.hideAll_none _ NO,?_,oe,ws,q1,q2,q3,q4,q5⟩,⟨fun b o z=>?_,fun b o e' n hb=>?_⟩,fun p' hp=>?_,q⟩
 ·exact PySem.W.funFrames_hide fr fun env he' b hb=>NH _ (Q9.mpr ⟨env,he',hb⟩)
 ·obtain⟨u,hu⟩:=Dj (I1.hok b o z)
  refine⟨u,Po _ hu fun hm=>?_⟩
  grind
 ·have hx:b∉X.ex:=by rw[p.ex];simp
  refine Po _ (I1.base.keep b o e' n hb hx) fun z=>?_
  rcases NV.mp z with rfl | z
  ·exact absurd (NJ (I.base.keep b o e' n hb hx)) (Qn he)
  ·rcases NV.mp (I.d_ b z) with rfl | z
   ·exact absurd (NJ e') (Qn I.ok.above)
   simp_all
 ·obtain⟨r1,r2,r3,r4,r5⟩:=I.pin p' (Pz _ hp)
  refine Po _ (k _ _ r1) fun z=>?_
  rcases NV.mp z with z | z
  ·rw[<- z] at he;exact absurd (NJ r1) (Qn he)
  ·rcases NV.mp (I.d_ _ z) with z | z
   ·grind
   simp_all
end L2
namespace L2.FE
open PySem PySem.Spec PyProof.Rows
noncomputable def mB (x:Str) (fs:List Str) (mr:MA):MS:=fun env h=>(mr env h).bind fun ds h1=>match intsOf ds with
 | some is=>if is.length=fs.length then .err ⟨x,fs.zip is⟩ h1 else .bad
 | none=>.bad
section
variable {X:Cx}{g:GG}{E:XK}
theorem uv:∀{fs:List Str}{us:List NI},us.length=fs.length->(fs.zip us).map (·.1)=fs
 | [],_,_=>rfl
 | f::fs,[],h=>by cases h
 | f::fs,u::us,h=>by rw[List.zip_cons_cons,NR,uv (by simp_all)]
def Bl {x:Str}{cst:Stmt}{C:Addr}{fs:List Str}{np cpos pos:Pos}{e:Expr}{es:List Expr}{mr:MA}{k:Nat} (fl:eY X E) (pl:Plain X) (hc:X.calm=true) (hg:Gl X x) (hm:X.mg x=some (.ref C)) (hgx:g x=some C) (ci:Fq X.K x cst C fs) (hr:bG (k+2) X.A) (hz:fs.length<=1000)
  (ha:PA X (e::es) (tMA X.K g (εX g E) mr)) (hdb:(x == ("__debug__" : Str))=false:=by decide) (he:starEach (e::es) X.env=(false,eval e X.env)::starEach es X.env:=by rfl) (hpl:(backTo cpos (starEach es X.env)).any (·.1)=false:=by rfl) :
  PS X (.Raise (some (.Call (.Name x np) (e::es) [] cpos)) none pos) (tMS X.K g (εX g E) (mB x fs mr)):=by
 intro pins s σ H D I ⟨α,env,h,sr,w⟩
 obtain⟨fI,fd,qual,hex,_⟩:=ci.ex
 obtain⟨tl,N,nm,q',bs,hdct,sn,sub,ab,col,dd,k0,k1,k2,k3,k5,mN,hC',hN,hni,T⟩:=sQ I.kIn hex
 refine PySem.wM (nm:=nm) (q:=q') (N:=N) (bs:=bs) (hdct:=hdct) (sn:=sn) (sub:=sub) (ab:=ab) (col:=col) (dd:=dd) (k0:=k0) (k1:=k1) (k2:=k2) (k3:=k3) (k5:=k5) (newId:="ValueError.__new__") (T.hasType P0.hasBase) (I.ok.hd hc) (by rw[he];assumption) (fT I hg hm ⟨rfl,?_⟩ hdb)
 have A0:=ha cpos pins s σ H (fun vs H1=>∃is:List Int,vs=is.map V.int/\is.length=fs.length/\∀dx od,H1 dx=none->E (.ref C) (some dx) (upd H1 dx (.frz od (.xd ((fs.zip is).map fun x=>(x.1,V.int x.2)))))) I ⟨α,env,h,sr,w.bind.mono fun ds h1 eq w1 vs H1 α1 e1 hr1 r1=>by
  cases ei:intsOf ds with
  | none=>simp only[ei] at w1;exact w1.elim
  | some is=>
   simp only[ei] at w1
   by_cases hl:is.length=fs.length
   ·rw[if_pos hl] at w1
    have:=dR ei
    subst this
    refine⟨is,r1.yI,hl,fun dx od hn=>?_⟩
    exact w1 α1 _ (e1.trans (Ext.fresh hn)) (hr1.grow hn) C (some dx) hgx (.inr ⟨dx,od,rfl,aL⟩)
   ·rw[if_neg hl] at w1;exact w1.elim⟩
 rw[he] at A0 ⊢
 refine PySem.Calls.evalArgs_plain (N6 A0 (fun us s1 ⟨vs,H1,I1,rv,is,ev,hl,fin⟩=>?_) fun _ _ z=>z)
 subst ev
 have hul:us.length=fs.length:=by rw[<- rv.length,NY];exact hl
 have hCC:s1.heap.get? C=some (excClassObj nm q' C N bs tl hdct sn sub ab col dd k0 k1 k2 k3 k5 "ValueError.__new__"):=by
  have a:=I.kIn
  have b:=I1.kIn
  unfold mR at hex
  split at hex
  ·rename_i dd2 cd2 sl2 ho
   have x1:=a _ _ ho
   have x2:=b _ _ ho
   simp_all
  grind
 refine⟨rfl,hCC,?_⟩
 have limS:=I1.nolimit
 refine CD ci I1.kIn limS hr hul hz fun h' e' dx t t' kp he' hdx' ne' q1 q2=>?_
 refine⟨kp _ _ hCC,e',_,rfl,q1,rfl,⟨_,rfl,rfl⟩,?_⟩
 obtain⟨od,es',ep',ho',_⟩:=id q2
 refine vM pl fl I1 kp he' hdx' ne' q1 rfl rfl rfl rfl ⟨ho',_,q2,fun y=>?_⟩ (fin dx od (I1.hok.fresh hdx'))
 have nd:((fs.zip us).map (·.1)).Nodup:=by rw[uv hul];exact(Ox.mp ci.sc.nd).2
 rw[show mkM (fs.zip us) y=_ from AI y _ _ nd]
 have:=mM (fs:=fs) rv y
 grind
end
end L2.FE
namespace PySem.W
open PySem PySem.Calls PyProof.Rows PySem.Spec Builtin Builtin.ObjectAttr
theorem pZ:∀n {l:List NI},l.length<=n->nZ l=true->l.contains (.type "BaseException")=true
 | 0,l,hl,e=>by
  have:l=[]:=OM (by omega)
  subst this;cases e
 | n+1,l,hl,e=>by
  rcases gH e with rfl | ⟨c,r,rfl,e'⟩
  ·simp
  ·rw[List.contains_cons,pZ n (by simp_all) e',Bool.or_true]
section
variable {K:Frag}{prog:NT}{w:Oe}{A:Oa}{E:NI->NM->Prop}{s:NM}{x C dx:Addr}{ox:Obj}{mA:Str->Option NI}{name:Str}{v:NI}
def zV {tk:Tok}{Q:Fin->NM->Prop} (X:K.In s.heap) (hx:s.heap.get? x=some ox) (hc:ox.cls=.ref C) (hf:∃ws,ox.data=.fields ws) (hd:ox.dict=some dx) (hn:s.heap.Ns dx mA) (hv:mA name=some v)
  (hna:findIn K (.ref C) name=some none) (hh:hasDictIn K C=true) (h:Q (.done (.ret v)) s):wpAny (model prog w) A (Ow.«object.__getattribute__» ⟨[.ref x,.str name tk],[]⟩) Q E s:=by
 obtain⟨cd,hcd,hd'⟩:=TL hh
 obtain⟨oc,od,oda,osl⟩:=ox
 obtain⟨ws,hf⟩:=hf
 subst hc hd hf
 have I:InstAt s.heap x ⟨.ref C,some dx,.fields ws,osl⟩ C (some hn.choose):=⟨hx,rfl,rfl,hn.choose_spec.choose_spec.choose_spec.1⟩
 have e:Ow.«object.__getattribute__» ⟨[.ref x,.str name tk],[]⟩=(typeOf (.ref x) >>= fun tp=>find (.ref x) tp name >>= fun f=>match f with
   | .value v=>(ret v:Sem Fin)
   | .bind g a=>bindTo g a (.ref x) tp
   | .missing=>do
    if tp == .type "module" then
     if ← isOpaqueModuleObj (.ref x) then
      let byTheModulesOwnEntry:=match (← stack).drop 1 with
       | (.builtin "module.__getattribute__" ⟨m::_,_⟩,_)::_=>m == .ref x
       | _=>false
      if !byTheModulesOwnEntry then unsupported "thirdparty:object.__getattribute__:a-miss-on-an-opaque-module"
    if tp == .type "type" then
     if let some key ← opaqueClassAbove (.ref x) then unsupported s!"thirdparty:{key.toString}.{name.toString}:object.__getattribute__-misses-on-an-opaque-class"
    noSuchAttribute (.ref x) name):=by rfl
 rw[e]
 refine gV (I.type.here ?_)
 refine gV ?_
 refine gV ((RJ X hna).here ?_)
 show wpAny _ _ (ownThenClass (.ref x) name none none) _ _ _
 refine gV (gV ?_)
 refine gV (RC hx ?_)
 refine gV (RC hx ?_)
 refine gV ?_
 refine(Tt X hcd).here ?_
 rw[hd']
 refine NG ?_
 refine wpAny_nsGet hn ?_
 rw[hv]
 refine gV (Tf (NG ?_))
 exact NG h
def Ec (X:K.In s.heap) (hx:s.heap.get? x=some ox) (hc:ox.cls=.ref C) (hf:∃ws,ox.data=.fields ws) (hd:ox.dict=some dx) (hn:s.heap.Ns dx mA) (hv:mA name=some v)
  (hga:findIn K (.ref C) "__getattribute__" = some (some (.builtin "BaseException.__getattribute__"))) (hgh:findIn K (.ref C) "__getattr__" = some none) (hna:findIn K (.ref C) name=some none) (ov:e_ K C=true) (hh:hasDictIn K C=true) (hv2:handedOut v=pure v)
  (h:Q v { s with toks:=s.toks+1 }):wpAny (model prog w) A (getAttr (.ref x) name b) Q E s:=by
 have FB:=PySem.F.attrBase_ValueError
 have I:InstAt s.heap x ox C (some hn.choose):=⟨hx,hc,by obtain⟨ws,e⟩:=hf;unfold notCls;rw[e],by grind⟩
 obtain⟨cd,hcd,ho⟩:=TL ov
 have ne:cd.mro.isEmpty=false:=by cases q:cd.mro with | nil=>rw[q] at ho;cases ho | cons _ _=>rfl
 have sub:Looks (model prog w) s.heap (isInstance (.ref x) (.type "BaseException")) true:=I.type.andThen (Ub X (by unfold mroIn;rw[hcd,Option.bind_some,if_neg (by simp_all),pZ _ (NK _) ho]))
 refine gV (wpAny_mkText (N9 (gV (Tg (s:={ s with toks:=s.toks+1 }) I.type (gV (Tg (s:={ s with toks:=s.toks+1 }) (RJ X hga) ?_))))))
 dsimp only
 have hx2:(NI.builtin "BaseException.__getattribute__" == NI.builtin "object.__getattribute__")=false:=by rfl
 refine gV ?_
 refine Tg (s:={ s with toks:=s.toks+1 }) (RJ X hgh) ?_
 refine gV (Ql (N9 ?_))
 have hcall:callGetattribute (.ref x) (.str name s.toks) (.builtin "BaseException.__getattribute__") b=boundAndCalled (.builtin "BaseException.__getattribute__") (.ref x) (.str name s.toks):=by cases b<;>rfl
 rw[hcall]
 refine gV ?_
 rw[FB.ga.bind (.ref x)]
 refine NG ?_
 have hk:builtinKind "BaseException.__getattribute__" = some .slot:=by rfl
 have hsplit:splitId "BaseException.__getattribute__" = some ("BaseException", "__getattribute__"):=by rfl
 refine QF (QM FB.ga.plain PySem.F.entry_bexc_ga (@Ui (model prog w) _ _ { s with toks:=s.toks+1 } "BaseException.__getattribute__" "BaseException" "__getattribute__" (.ref x) [.str name s.toks] [] _ hk hsplit sub (PySem.F.args_bexc_ga (.ref x) (.str name s.toks)) ?_))
 refine zV (s:={ s with toks:=s.toks+1 }) X hx hc hf hd hn hv hna hh ?_
 show wpAny _ _ (handedOut v) _ _ _
 rw[hv2]
 exact NG h
end
end PySem.W
namespace L2
open PySem PySem.Spec PyProof.Rows PySem.W
structure GQ (K) (C) (f):Prop where
 ga:findIn K (.ref C) "__getattribute__" = some (some (.builtin "BaseException.__getattribute__"))
 gh:findIn K (.ref C) "__getattr__" = some none
 na:findIn K (.ref C) f=some none
 ov:e_ K C=true
 hd:hasDictIn K C=true
end L2
namespace L2.FE
open PySem PySem.Spec PyProof.Rows
noncomputable def CZ (c f:Str):D->Hh->R D:=fun d h=>match d with
 | .exc c' fs=>if c'=c then (match fs.lookup f with | some i=>.ok (.int i) h | none=>.bad) else .bad
 | _=>.bad
theorem kZ:∀{fs:List (Str × Int)}{f:Str}{i:Int},fs.lookup f=some i->(fs.map fun x=>(x.1,V.int x.2)).lookup f=some (.int i)
 | [],f,i,h=>by cases h
 | (y,j)::fs,f,i,h=>by
  simp only[NR,List.lookup] at h ⊢
  cases q:f == y with
  | true=>simp_all
  | false=>rw[q] at h;exact kZ h
section
variable {X:Cx}{g:GG}{ε:EE}
def Ha {e:Expr}{c f:Str}{C:Addr}{pos:Pos}{m:ME} (he:PE X e (tM X.K g ε m)) (hgc:g c=some C) (cr:GQ X.K C f) (hb:attributeBase e f X.env (eval e X.env)=eval e X.env:=by rfl):PE X (.Attribute e f pos) (tM X.K g ε (cUn (CZ c f) m)):=by
 intro pins s σ H Q I ⟨α,env,h,sr,w⟩
 have A0:=he pins s σ H (fun v H1=>∃(p dx:Addr) (o od:Obj) (i:Int) (fs:List (Str × Int)),v=.ref p/\H1 p=some (AtO p o)/\o.cls=.ref C/\(∃vs,o.data=.fields vs)/\o.dict=some dx/\H1 dx=some (.frz od (.xd (fs.map fun x=>(x.1,V.int x.2))))/\fs.lookup f=some i/\Q (.int i) H1) I ⟨α,env,h,sr,w.bind.mono fun d h1 eq w1 v H1 α1 e1 hr1 r1=>by
  unfold CZ at w1
  cases r1 with
  | exc hg hp hcl hda hfs=>
   rename_i c' C' p o fs
   dsimp only at w1
   by_cases hc:c'=c
   ·rw[if_pos hc] at w1
    subst hc
    rw[hgc] at hg;cases hg
    cases el:fs.lookup f with
    | none=>rw[el] at w1;exact w1.elim
    | some i=>
     rw[el] at w1
     rcases hfs with⟨_,rfl⟩ | ⟨dx,od,hd1,hd2⟩
     ·cases el
     ·exact⟨p,dx,o,od,i,fs,rfl,hp,hcl,hda,hd1,hd2,el,w1 (.int i) H1 α1 e1 hr1 (.int i)⟩
   ·rw[if_neg hc] at w1;exact w1.elim
  | _=>exact w1.elim⟩
 refine Dt hb (thn A0 fun u s1 ⟨v,H1,I1,rv,p,dx,o,od,i,fs,ev,hp,hcl,hda,hd1,hd2,el,q⟩=>?_)
 subst ev
 obtain rfl:u=Ob p:=rv
 obtain⟨ho,_⟩:=I1.hok p _ hp
 obtain⟨hod,mA,hns,rel⟩:=I1.hok dx _ hd2
 have rl:=rel f
 rw[kZ el] at rl
 cases em:mA f with
 | none=>rw[em] at rl;exact rl.elim
 | some u=>
  rw[em] at rl
  obtain⟨t,rfl⟩:=rl
  exact PySem.W.Ec I1.kIn ho hcl hda hd1 hns.ns em cr.ga cr.gh cr.na cr.ov cr.hd rfl ⟨.int i,H1,I1.tok _,⟨t,rfl⟩,q⟩
end
end L2.FE
namespace L2
open PySem PySem.Spec PyProof.Rows PySem.W
def CIs (K:ND) (x:Str) (cst:Stmt) (fs:List Str):Prop:=∃C,nsIn K mainGlobals x=some (some (.ref C))/\Fq K x cst C fs/\∀f∈fs,GQ K C f
noncomputable def Jq (K:ND) (C fI:Addr) (fs:List Str):Bool:=mR K C fI&&typeIn K (.ref fI) == some (.type "function")&&findIn K (.ref C) "__setattr__" == some (some (.builtin "object.__setattr__"))&&e_ K C&&hasDictIn K C&&
 findIn K (.ref C) "__getattribute__" == some (some (.builtin "BaseException.__getattribute__"))&&findIn K (.ref C) "__getattr__" == some none&&fs.all fun f=>takerIn K C f == some none&&findIn K (.ref C) f == some none
def CIm (K:ND) (mg:Str->Option NI) (x:Str) (cst:Stmt) (fs:List Str):Prop:=∃C,mg x=some (.ref C)/\Fq K x cst C fs/\∀f∈fs,GQ K C f
def CIm.of {K:ND}{h:Heap}{mg:Str->Option NI}{x:Str}{cst:Stmt}{fs:List Str} (X:K.In h) (G:h.Ns mainGlobals mg) (c:CIs K x cst fs):CIm K mg x cst fs:=
 let ⟨C,a,b,d⟩:=c;⟨C,R_ X G a,b,d⟩
end L2
namespace L2.FE
open PySem PySem.Spec PyProof.Rows
section
variable {X:Cx}{g:GG}{E:XK}
def C3 {np cpos pos:Pos} (fl:eY X E) (pl:Plain X) (hc:X.calm=true) (hg:Gl X x) (cm:CIm X.K X.mg x cst fs) (hgo:g=gOf X.mg) (hr:bG (k+2) X.A) (hz:fs.length<=1000)
  (ha:PA X (e::es) (tMA X.K g (εX g E) mr)) (hdb:(x == ("__debug__" : Str))=false:=by decide) (he:starEach (e::es) X.env=(false,eval e X.env)::starEach es X.env:=by rfl) (hpl:(backTo cpos (starEach es X.env)).any (·.1)=false:=by rfl) :
  PS X (.Raise (some (.Call (.Name x np) (e::es) [] cpos)) none pos) (tMS X.K g (εX g E) (mB x fs mr)):=by
 obtain⟨C,hm,ci,_⟩:=cm
 exact Bl fl pl hc hg hm (by rw[hgo];unfold gOf;rw[hm]) ci hr hz ha hdb he hpl
def yF (he:PE X e (tM X.K g ε m)) (cm:CIm X.K X.mg c cst fs) (hgo:g=gOf X.mg) (hf:f∈fs) (hb:attributeBase e f X.env (eval e X.env)=eval e X.env:=by rfl):PE X (.Attribute e f pos) (tM X.K g ε (cUn (CZ c f) m)):=by
 obtain⟨C,hm,_,cr⟩:=cm
 exact Ha he (by rw[hgo];unfold gOf;rw[hm]) (cr f hf) hb
end
end L2.FE
namespace L2
open PySem PySem.Spec PyProof.Rows PySem.W
def DW {K:ND}{kV doc pm cdv ct:NI} (a:nsIn K mainGlobals x=some (some (.ref C))) (_b:findIn K (.ref C) "__init__" = some (some (.ref fI)))
  (l:K.lookup fI=some ⟨oc,od,.func (fnOf "__init__" qual (cf (bO cst)) (aP (bO cst)) (ag (bO cst)) .none kV doc pm an cdv ct),osl⟩) (c:codeIn K cdv qual=true) (k:keepIn K (.ref fI)=true) (o:Jq K C fI fs=true)
  (sc:az ("self" :: fs) ("self" :: fs) (ag (bO cst))) (loc:∀y∈("self" : Str)::fs,(ag (bO cst)).names.lookup y=some .local) (body:jt (aP (bO cst)) fs)
  (bd:∀kV doc pm an cdv ct us , us.length=(("self" : Str)::fs).length->bindArgs (fnOf "__init__" qual (cf (bO cst)) (aP (bO cst)) (ag (bO cst)) .none kV doc pm an cdv ct) ⟨us,[]⟩=pure ((("self" : Str)::fs).zip us)) (ne:fs≠[]):CIs K x cst fs:=by
 unfold Jq at o
 simp only[N5,beq_iff_eq,NZ] at o
 obtain⟨⟨⟨⟨⟨⟨⟨o1,o2⟩,o3⟩,o4⟩,o5⟩,o6⟩,o7⟩,o8⟩:=o
 have F:=vm l c k
 exact⟨C,a,⟨⟨fI,_,qual,o1,F,F.binds bd,o2⟩,sc,loc,body,o3,o4,fun f hf=>(o8 f hf).1,o5,ne⟩,fun f hf=>⟨o6,o7,(o8 f hf).2,o4,o5⟩⟩
def Ld (e:h'.get? a=some o):a_ P w H h' a (FE.AtO a o):=⟨e,e,⟨o,e⟩,fun h1 h2 q k=>k o q⟩
end L2
namespace L2.Srt
open PySem PySem.W PyProof.Rows
section
variable {n:Nat}{key:Nat->Int}
structure Pm (n) (p:Array Nat):Prop where
 size:p.size=n
 perm:p.Perm (NQ n).toArray
def Pm.lt (h:Pm n p) (hi:i<n):p.getD i 0<n:=by
 have hi':i<p.size:=by rw[h.size];exact hi
 have e:p.getD i 0=p[i]:=by simp[hi']
 rw[e]
 have:=h.perm.mem_iff.mp (Oj hi')
 simp_all
variable (inj:∀i j,i<n->j<n->key i=key j->i=j)
include inj
omit inj in
omit inj in
omit inj in
omit inj in
omit inj in
omit inj in
end
end L2.Srt
namespace L2.Srt
open PySem PySem.W PyProof.Rows PySem.Calls
section
variable {prog:NT}{w:Oe}{A:Oa}{E:NI->NM->Prop}{s:NM}{a:Addr}{vs:List NI}{κ:Rk}
noncomputable def dM (h:Heap) (a:Addr) (vs:List NI):Heap:=((h.update a (Qf fun _=>(#[]:Array NI))).push (seqObj "tuple" vs.toArray 0)).push (seqObj "list" #[] 0)
end
section
variable {prog:NT}{w:Oe}{A:Oa}{E:NI->NM->Prop}{s:NM}{vs:List NI}
def EL (hn:b≠a) (q:h.get? b=some o):(dM h a vs).get? b=some o:=by
 exact NF _ (NF _ (by rw[R6 _ _ _ _ hn];exact q))
inductive Prs (h:Heap):List NI->List (Int × Int)->Prop
 | nil:Prs h [] []
 | cons {t u:Tok} {x y:Int} {vs:List NI} {ps:List (Int × Int)}:h.get? a=some o->o.cls=.type "tuple" -> o.data=.seq #[.int x t,.int y u] k->Prs h vs ps->Prs h (.ref a::vs) ((x,y)::ps)
def Prs.len (r:Prs h vs ps):vs.length=ps.length:=by
 induction r with
 | nil=>rfl
 | cons _ _ _ _ ih=>simp[ih]
def Prs.at_ (r:Prs h vs ps):∀{i:Nat},i<ps.length->∃a o k t u,vs.getD i OS=.ref a/\h.get? a=some o/\o.data=.seq #[.int (ps.getD i (0,0)).1 t,.int (ps.getD i (0,0)).2 u] k:=by
 induction r with
 | nil=>simp
 | @cons a o k t u x y vs ps ha hc hd r ih=>
  grind
end
end L2.Srt
namespace L2
open PySem PySem.Spec PyProof.Rows L2.Srt
inductive PrV (K) (H):List V->List (Int × Int)->Prop
 | nil:PrV K H [] []
 | cons:SqT K H a [.int x,.int y]->PrV K H xs ps->PrV K H (.ref a::xs) ((x,y)::ps)
section
variable {X:Cx}
def PrV.len {K:ND} (r:PrV K H xs ps):xs.length=ps.length:=by
 induction r with
 | nil=>rfl
 | cons _ _ ih=>simp[ih]
theorem pW {xs:List V}{us:List NI} (r:Vals xs us):∀(l:List Nat),(∀i∈l,i<xs.length)->Vals (l.map fun i=>xs.getD i .non) (l.map fun i=>us.getD i OS)
 | [],_=>.nil
 | i::l,h=>by
  refine .cons ?_ (pW r l fun j hj=>h j (NH _ hj))
  have hi:i<xs.length:=h i NO
  have hu:i<us.length:=by rw[<- r.length];exact hi
  obtain⟨y,e3,ry⟩:=r.get' (N0 hu)
  simp_all
end
end L2
namespace L2.FE
open PySem PySem.Spec PyProof.Rows L2.Srt
section
variable {X:Cx}{g:GG}{ε:EE}{K:ND}
theorem yo {α:List Addr}{H:Hp}:∀{ds:List D}{xs:List V},ao K g α H ds xs->∀(i:Nat),i<ds.length->aC K g α H (ds.getD i .non) (xs.getD i .non)
 | _,_,.nil,i,h=>by simp at h
 | _,_,.cons a b,0,_=>a
 | _,_,.cons a b,i+1,h=>by simpa using yo b i (by simp_all)
theorem uf {α:List Addr}{H:Hp}{ds:List D}{xs:List V} (r:ao K g α H ds xs):∀(l:List Nat),(∀i∈l,i<ds.length)->ao K g α H (l.map fun i=>ds.getD i .non) (l.map fun i=>xs.getD i .non)
 | [],_=>.nil
 | i::l,h=>.cons (yo r i (h i NO)) (uf r l fun j hj=>h j (NH _ hj))
end
end L2.FE
namespace L2.Srt
open PySem PySem.W PyProof.Rows PySem.Calls
section
variable {prog:NT}{w:Oe}{A:Oa}{E:NI->NM->Prop}{s:NM}{a:Addr}{vs:List NI}
def oy (ho:s.heap.get? a=some (seqObj "list" vs.toArray n)) (h1:vs.length<2) (h:P (.done (.ret .none)) { s with heap:=sortedHeap s.heap a vs vs.toArray }) :
  wpAny (model prog w) A (Ow.«list.sort» ⟨[.ref a],[]⟩) P E s:=by
 obtain⟨e1,ho1⟩:∃e1,(s.heap.update a (Qf fun _=>(#[]:Array NI))).get? a=some (seqObj "list" #[] e1):=⟨_,S9 ho fun _=>#[]⟩
 have hm:(dM s.heap a vs).get? a=some (seqObj "list" #[] e1):=NF _ (NF _ ho1)
 rw[list_sort_plain]
 refine gV (S8 ho rfl ?_)
 refine gV (RX ho rfl ?_ (by rw[OW,OY];omega) (OI _))
 refine gV (Tu ho1 rfl ?_)
 refine gV (wpAny_newTuple ?_ (by show vs.length<=_;rw[OY];omega))
 refine gV (Ri ?_ (OI _))
 refine N9 ?_
 have hn2:vs.toArray.size<2:=by omega
 rw[if_pos hn2,if_pos hn2]
 refine gV (NG ?_)
 refine gV (NG ?_)
 dsimp only
 have hout:(arrOf (N3.mk' general' (vs.toArray.zip vs.toArray) #[] 7 none)).map (·.2)=vs.toArray:=by
  grind
 rw[hout]
 refine gV (Tu hm rfl ?_)
 refine gV (RX hm rfl ?_ (OI _) (by omega))
 simp only[bne_self_eq_false]
 exact NG h
end
end L2.Srt
namespace L2.FE
open PySem PySem.Spec PyProof.Rows
noncomputable def setOf (h:Hh) (n:Nat):Option (List Int):=match h[n]? with
 | some (.set ns)=>some ns
 | _=>none
section
variable {X:Cx}{g:GG}{ε:EE}{K:ND}
theorem aK.set (r:aK K g α H h) (e:setOf h n=some ns) (hp:α[n]?=some p):H p=some (.set (fun k=>ns.any (· == k)) ns.length):=by
 unfold setOf at e
 cases eo:h[n]? with
 | none=>simp_all
 | some o=>
  rw[eo] at e
  cases o with
  | set k=>cases e;exact r.here n p _ hp eo
  | _=>cases e
end
noncomputable def cG (h:Hh) (n:Nat):Option (List (List Key × D)):=match h[n]? with
 | some (.dit kvs)=>some kvs
 | _=>none
noncomputable def rE:List (List Key × D)->List Key->Option D
 | [],_=>none
 | p::r,k=>if p.1=k then some p.2 else rE r k
noncomputable def Bz (kvs:List (List Key × D)) (k:List Key) (d:D):List (List Key × D):=
 if (kvs.any fun kv=>decide (kv.1=k))=true then kvs.map (fun kv=>if kv.1=k then (kv.1,d) else kv) else kvs++[(k,d)]
abbrev PDT (K:ND) (g:GG) (α:List Addr) (H:Hp):List (List Key × D)->List (List Key × V)->Prop:=Paired (fun(a:List Key × D) (b:List Key × V)=>a.1=b.1/\aC K g α H a.2 b.2)
section
variable {K:ND}{g:GG}{α:List Addr}{H:Hp}{h:Hh}
theorem aK.dit (r:aK K g α H h) (e:cG h n=some kvs) (hp:α[n]?=some p):∃kws,H p=some (.dT kws)/\PDT K g α H kvs kws:=by
 unfold cG at e
 cases eo:h[n]? with
 | none=>simp_all
 | some o=>
  rw[eo] at e
  cases o with
  | dit k=>cases e;exact r.here n p _ hp eo
  | _=>cases e
theorem PDT.val (k:List Key):∀{kvs:List (List Key × D)}{kws:List (List Key × V)},PDT K g α H kvs kws->(rE kvs k=none/\i8 kws k=none)\/∃d v,rE kvs k=some d/\i8 kws k=some v/\aC K g α H d v
 | _,_,.nil=>.inl ⟨rfl,rfl⟩
 | p::r,q::t,.cons c rr=>by
  by_cases e:p.1=k
  ·exact .inr ⟨p.2,q.2,if_pos e,jL (c.1 ▸ e),c.2⟩
  ·rw[show rE (p::r) k=rE r k from if_neg e,jQ (c.1 ▸ e)]
   exact PDT.val k rr
theorem PDT.any (k:List Key):∀{kvs:List (List Key × D)}{kws:List (List Key × V)},PDT K g α H kvs kws->(kvs.any fun kv=>decide (kv.1=k))=kws.any fun kv=>decide (kv.1=k)
 | _,_,.nil=>rfl
 | p::r,q::t,.cons c rr=>by rw[Pf,Pf,PDT.any k rr,c.1]
theorem PDT.yW (k:List Key){d:D}{v:V} (rd:aC K g α H d v):∀{kvs:List (List Key × D)}{kws:List (List Key × V)},PDT K g α H kvs kws →
  PDT K g α H (kvs.map fun kv=>if kv.1=k then (kv.1,d) else kv) (kws.map fun kv=>if kv.1=k then (kv.1,v) else kv)
 | _,_,.nil=>.nil
 | p::r,q::t,.cons c rr=>by
  refine .cons ?_ (PDT.yW k rd rr)
  grind
theorem PDT.snoc {x:List Key × D}{y:List Key × V} (c:x.1=y.1/\aC K g α H x.2 y.2):∀{kvs:List (List Key × D)}{kws:List (List Key × V)},PDT K g α H kvs kws->PDT K g α H (kvs++[x]) (kws++[y])
 | _,_,.nil=>.cons c .nil
 | _::_,_::_,.cons b rr=>.cons b (PDT.snoc c rr)
def PDT.put (k) (rd:aC K g α H d v) (r:PDT K g α H kvs kws):PDT K g α H (Bz kvs k d) (putK kws k v):=by
 unfold Bz putK
 rw[PDT.any k r]
 split
 ·exact PDT.yW k rd r
 ·exact PDT.snoc ⟨rfl,rd⟩ r
def PDT.ext (e:Ext K α H α' H') (r:PDT K g α H kvs kws):PDT K g α' H' kvs kws:=Paired.JO e.toEx0 r
theorem PDT.length:∀{kvs:List (List Key × D)}{kws:List (List Key × V)},PDT K g α H kvs kws->kvs.length=kws.length
 | _,_,.nil=>rfl
 | _::_,_::_,.cons _ rr=>congrArg (· + 1) (PDT.length rr)
theorem aB.dit (w:aB K g α H Q (.ref h.length) (h++[.dit kvs])) (r:aK K g α H h) (rs:PDT K g α H kvs kws) (hp:H p=none):Q (.ref p) (upd H p (.dT kws)):=by
 have x:=Ext.push (K:=K) (α:=α) (o:=.dT kws) hp
 exact w _ _ _ x (r.push hp ⟨_,aL,rs.ext x⟩) (.ref (by rw[<- r.len];simp))
end
noncomputable def n4:List D->Option (List Key)
 | []=>some []
 | d::ds=>match IL d,n4 ds with
  | some k,some ks=>some (k::ks)
  | _,_=>none
noncomputable def lS:D->Option (List Key)
 | .tup ds=>n4 ds
 | _=>none
theorem xK {K:ND}{g:GG}{α:List Addr}{H:Hp}:∀{ds:List D}{vs:List V}{ks:List Key},ao K g α H ds vs->n4 ds=some ks->vs=ks.map kV
 | _,_,ks,.nil,e=>by cases e;rfl
 | d::ds,_,ks,.cons r rs,e=>by
  unfold n4 at e
  cases e1:IL d with
  | none=>simp_all
  | some k=>
   cases e2:n4 ds with
   | none=>simp_all
   | some ks'=>
    rw[e1,e2] at e
    cases e
    rw[IA r e1,xK rs e2];rfl
def rA {K:ND}{g:GG} (r:aC K g α H d v) (e:lS d=some k):∃b,v=.ref b/\H b=some (.tup (k.map kV)):=by
 cases r with
 | tup hp rs=>exact⟨_,rfl,by rw[hp,xK rs e]⟩
 | _=>cases e
noncomputable def xW:ME:=fun _ h=>.ok (.ref h.length) (h++[.dit []])
noncomputable def gW:D->D->Hh->R D:=fun o i h=>match o,lS i with
 | .ref n,some k=>match cG h n with
  | some kvs=>match rE kvs k with
   | some d=>.ok d h
   | none=>.bad
  | none=>.bad
 | _,_=>.bad
noncomputable def qr:D->D->D->Hh->R Unit:=fun o i v h=>match o,lS i with
 | .ref n,some k=>match cG h n with
  | some kvs=>if kvs.length<1000000 then .ok () (h.set n (.dit (Bz kvs k v))) else .bad
  | none=>.bad
 | _,_=>.bad
section
variable {X:Cx}{g:GG}{ε:EE}{o i e f:Expr}{mo mi me mf:ME}{pos:Pos}
def EF:PE X (.Dict [] [] pos) (tM X.K g ε xW):=
 PE.imp CO fun σ H Q ⟨α,env,h,s,w⟩ p hp=>aB.dit (show aB X.K g α H Q _ _ from w) s.heap .nil hp
def yp (hu:X.A.units+1<cLine) (ho:PE X o (tM X.K g ε mo)) (hi:PE X i (tM X.K g ε mi)) (hs:Gr i):PE X (.Subscript o i pos) (tM X.K g ε (av gW mo mi)):=
 PE.imp (DM hu ho hi hs) fun σ H Q ⟨α,env,h,s,w⟩=>tM.use s w.bind fun d1 h1 v1 H1 α1 e1 s1 r1 w1=>tM.use s1 (w1.ext e1).bind fun d2 h2 v2 H2 α2 e2 s2 r2 w2=>by
  unfold gW at w2
  cases ek:lS d2 with
  | none=>rw[ek] at w2;cases d1<;>exact w2.elim
  | some k=>
   rw[ek] at w2
   cases (r1.ext e2) with
   | @ref n p hp=>
    simp only at w2
    cases ed:cG h2 n with
    | none=>rw[ed] at w2;exact w2.elim
    | some kvs=>
     rw[ed] at w2
     obtain⟨kws,hd,rs⟩:=s2.heap.dit ed hp
     obtain⟨b',rfl,eb⟩:=rA r2 ek
     simp only at w2
     rcases rs.val k with⟨ev,_⟩ | ⟨d,v,ev,ew,rv⟩
     ·rw[ev] at w2;exact w2.elim
     ·rw[ev] at w2
      refine⟨p,v,rfl,?_,aB.now (aB.ext (e1.trans e2) (show aB X.K g α H Q d h2 from w2)) s2.heap rv⟩
      rw[<- ew]
      exact rM.t hd eb
   | _=>exact w2.elim
def G9 {p:Pos} (hu:X.A.units+1<cLine) (he:PE X e (tM X.K g ε me)) (ho:PE X o (tM X.K g ε mo)) (hi:PE X i (tM X.K g ε mi))
  (hs:swapsWith e (some (.Subscript o i p)) pos.line X.env=pure false:=by rfl):PS X (.Assign [.Subscript o i p] e pos) (tMS X.K g ε (i3 qr mo mi me)):=
 PS.imp (ED hu ho hi he hs) fun E σ H ⟨α,env,h,s,w⟩=>tM.use s w.bind fun d1 h1 v1 H1 α1 e1 s1 r1 w1=>tM.use s1 (w1.ext e1).bind fun d2 h2 v2 H2 α2 e2 s2 r2 w2=>tM.use s2 (w2.ext e2).bind fun d3 h3 v3 H3 α3 e3 s3 r3 w3=>by
  have w4:=(w3.ext e3).bind
  unfold qr at w4
  cases ek:lS d3 with
  | none=>rw[ek] at w4;cases d2<;>exact w4.elim
  | some k=>
   rw[ek] at w4
   cases (r2.ext e3) with
   | @ref n p hp=>
    simp only at w4
    cases ed:cG h3 n with
    | none=>rw[ed] at w4;exact w4.elim
    | some kvs=>
     rw[ed] at w4
     obtain⟨hl,w4⟩:=WQ.cO w4
     obtain⟨kws,hd,rs⟩:=s3.heap.dit ed hp
     obtain⟨b',rfl,eb⟩:=rA r3 ek
     refine⟨p,_,rfl,AX.t hd eb (by rw[<- rs.length,OY];omega),?_⟩
     have x:=Ext.write (o:=.dT (putK kws k v1)) s3.heap hp
     have ra:=(r1.ext e2).ext e3
     exact(show cH X.K g α H E (.nx env) _ from w4) _ _ (e1.trans (e2.trans (e3.trans x))) (s3.heap.write hp ⟨_,aL,(rs.put k ra).ext x⟩) _ (s3.vs.ext x)
   | _=>exact w4.elim
end
end L2.FE
namespace L2
open PySem PySem.Spec PyProof.Rows
abbrev Ij (J:It) (ix:List Nat) (σ:St) (wi2:TI) (te:TE) (acc:Addr) (H1:Hp) (Q:VK):Prop:=
 ∃W:Nat->Nat->List V->Hp->Prop,(∃m,W 0 m [] (upd H1 acc (.lst [])))/\∀i m ys H,W i m ys H →
  (J.stop i H/\Q (.ref acc) H)\/(J.go i H/\∀σ0 x H',gv 2 ix σ σ0->J.yld i H x H'->wi2 (σ0.set 0 (some x)) H' fun J2 H2=>
   ∃U:Nat->Nat->List V->Hp->Prop,(∃m2,U 0 m2 ys H2)/\∀j m2 zs H,U j m2 zs H->(J2.stop j H/\∃m',m'<m/\W (i+1) m' zs H) ∨
    (J2.go j H/\∀y H',J2.yld j H y H'->te ((σ0.set 0 (some x)).set 1 (some y)) H' fun v H3=>∃ks,H3 acc=some (.lst ks)/\ks.length<sizeLine/\∃m',m'<m2/\U (j+1) m' (ks++[v]) (upd H3 acc (.lst (ks++[v])))))
noncomputable def vT (wi:TI) (ix:List Nat) (wi2:TI) (te:TE):TE:=fun σ H Q=>wi σ H fun J H1=>∀acc,H1 acc=none->Ij J ix σ wi2 te acc H1 Q
section
variable {prog:NT}{w:Oe}{A:Oa}{R:Result->NM->Prop}{s:NM}{elt tg iter tg2 iter2:Expr}{scope:R0}{pos:Pos}{it acc:NI}{env:Env}
noncomputable abbrev e2 (elt tg iter tg2 iter2:Expr) (scope:R0) (pos:Pos):Expr:=.ListComp elt [⟨tg,iter,[],0⟩,⟨tg2,iter2,[],0⟩] scope pos
def An:compTurn (e2 elt tg iter tg2 iter2 scope pos) 0 it acc env=(standAt iter.pos >>= fun _=>pyNext it >>= fun r=>match r with
  | none=>pure (.done .next)
  | some v=>letOwnedTupleGo tg it v >>= fun _=>assign tg env v >>= fun _=>
   eval iter2 env >>= fun x=>standAt iter2.pos >>= fun _=>foldedSetIterable iter2 env x >>= fun x=>holding [x] (pyIter x) >>= fun i2=>runOwn (.compStart (e2 elt tg iter tg2 iter2 scope pos) 1 i2 acc env) env >>= fun _=>
    again (.compLoop (e2 elt tg iter tg2 iter2 scope pos) 0 it acc env)):=by rfl
def ET:compTurn (e2 elt tg iter tg2 iter2 scope pos) 1 it acc env=(standAt iter2.pos >>= fun _=>pyNext it >>= fun r=>match r with
  | none=>pure (.done .next)
  | some v=>letOwnedTupleGo tg2 it v >>= fun _=>assign tg2 env v >>= fun _=>
   (eval elt env >>= fun x=>call (.builtin "list.append") [acc,x] >>= fun _=>pure ()) >>= fun _=>
    again (.compLoop (e2 elt tg iter tg2 iter2 scope pos) 1 it acc env)):=by rfl
def Bt (I:Nat->NM->Prop)
  (turn:∀n s,I n s->wpAny (model prog w) A (pyNext it) (fun r s₁=>match r with
   | none=>R (.ok .next) s₁
   | some v=>wpAny (model prog w) A (letOwnedTupleGo tg2 it v) (fun _ s₁=>wpAny (model prog w) A (assign tg2 env v) (fun _ s₂=>
     wpAny (model prog w) A (eval elt env) (fun x s₄=>wpAny (model prog w) A (call (.builtin "list.append") [acc,x]) (fun _ s₅=>∃m,m<n/\I m s₅) (fun _ _=>False) s₄) (fun _ _=>False) s₂) (fun _ _=>False) s₁) (fun _ _=>False) s₁) (fun _ _=>False) s)
  (n) (h:I n s):codeAny (model prog w) A (.compLoop (e2 elt tg iter tg2 iter2 scope pos) 1 it acc env) R s:=by
 refine TX rfl I (fun n s hI=>?_) n h
 refine T8 ?_
 rw[ET]
 refine SG ?_
 refine gV (OV (gV (thn (turn n s hI) fun r s₁ h₁=>?_)))
 cases r with
 | none=>exact NG h₁
 | some v=>exact gV (thn h₁ fun _ s₂ h₂=>gV (thn h₂ fun _ s₃ h₃=>gV (gV (thn h₃ fun x s₄ h₄=>gV (thn h₄ fun _ s₅ h₅=>NG (NG ⟨rfl,h₅⟩))))))
def yZ (I:Nat->NM->Prop) (hf:∀x,foldedSetIterable iter2 env x=pure x)
  (turn:∀n s,I n s->wpAny (model prog w) A (pyNext it) (fun r s₁=>match r with
   | none=>R (.ok .next) s₁
   | some v=>wpAny (model prog w) A (letOwnedTupleGo tg it v) (fun _ s₁=>wpAny (model prog w) A (assign tg env v) (fun _ s₂=>
     wpAny (model prog w) A (eval iter2 env) (fun x s₃=>wpAny (model prog w) A (pyIter x) (fun i2 s₄=>
      codeAny (model prog w) A (.compStart (e2 elt tg iter tg2 iter2 scope pos) 1 i2 acc env) (fun r s'=>match r with
       | .ok _=>∃m,m<n/\I m s'
       | .error _=>False) s₄) (fun _ _=>False) s₃) (fun _ _=>False) s₂) (fun _ _=>False) s₁) (fun _ _=>False) s₁) (fun _ _=>False) s)
  (n) (h:I n s):codeAny (model prog w) A (.compLoop (e2 elt tg iter tg2 iter2 scope pos) 0 it acc env) R s:=by
 refine TX rfl I (fun n s hI=>?_) n h
 refine T8 ?_
 rw[An]
 refine SG ?_
 refine gV (OV (gV (thn (turn n s hI) fun r s₁ h₁=>?_)))
 cases r with
 | none=>exact NG h₁
 | some v=>
  refine gV (thn h₁ fun _ s₂ h₂=>gV (thn h₂ fun _ s₃ h₃=>gV (thn h₃ fun x s₄ h₄=>gV (OV (gV (SI (hf x) (gV (N9 (thn h₄ fun i2 s₅ h₅=>?_)))))))))
  refine gV (wpAny_runOwn (PF h₅ fun r s' hr=>?_))
  cases r with
  | ok f=>exact NG ⟨rfl,hr⟩
  | error e=>simp_all
def Bp (h0:codeAny (model prog w) A (.compLoop (e2 elt tg iter tg2 iter2 scope pos) 1 it acc env) R s)
  (h:wpAny (model prog w) A (pyIter it) (fun i' s'=>codeAny (model prog w) A (.compLoop (e2 elt tg iter tg2 iter2 scope pos) 1 i' acc env) R s') (fun _ _=>False) s) :
  codeAny (model prog w) A (.compStart (e2 elt tg iter tg2 iter2 scope pos) 1 it acc env) R s:=by
 refine R5 ?_
 refine wpAny_notedAt ?_
 refine SG ?_
 refine gV (Qo ?_)
 split
 ·exact NG ⟨rfl,h0⟩
 ·exact gV (Tf (gV (OV (gV (thn h fun i' s' h'=>NG ⟨rfl,h'⟩)))))
end
def yX {X:Cx}{use:Option (NI->Sem Unit)}{Q2:NI->NM->Prop}{pins:List (Addr × Obj)}{s:NM}{σ:St}{H:Hp}{Q:VK}{elt iter tg iter2 tg2:Expr}{tn':List Str}{scope osc:R0}{pos:Pos}{wi wi2:TI}{te:TE} (ix:List Nat) (N':List Str)
  (hxe:X.xe=fun _ _=>False) (hc:X.calm=true) (ho:X.env.scope=osc) (hN:N'=tn'++ix.map fun i=>(X.N[i]?).getD ("" : Str)) (hnd:N'.Nodup)
  (hall:(∀y∈scope.names,y.2=.free->osc.names.lookup y.1=some .cell)/\(∀y∈scope.names,y.2≠.cell)/\scope.kind=.function/\(∀y∈scope.names,y.2=.local->scope.names.lookup y.1=some .local)/\(∀y∈N'.drop tn'.length,scope.names.lookup y=some .free))
  (hi:PI X tg iter wi) (hg:∀cl C ax aD fp,PG (aZ X scope cl C ax aD fp N') tg (gq 0)) (hi2:∀cl C ax aD fp,PI (aZ X scope cl C ax aD fp N') tg2 iter2 wi2) (hg2:∀cl C ax aD fp,PG (aZ X scope cl C ax aD fp N') tg2 (gq 1))
  (he:∀cl C ax aD fp,PE (aZ X scope cl C ax aD fp N') elt te)
  (hs:∀x,foldedSetIterable iter X.env x=pure x) (hs2:∀env x,foldedSetIterable iter2 env x=pure x) (h2n:tn'.length=2) (I:Inv X pins σ H s) (h:vT wi ix wi2 te σ H Q)
  (hfin:∀(acc C:Addr) (H5:Hp) (s5:NM) (o:Obj),Inv X (pins++[(C,o)]) σ H5 s5->(∀x c,X.env.cells.lookup x=some c->c≠C)->X.ax.heap.objs.size<=C->(∀p∈X.pn++pins,p.1≠C)->(∃m,∀h':Heap,h'.get? C=some o->h'.Ns C m)->Q (.ref acc) H5->compPost (model X.prog X.w) X.A X.xe use Q2 (.ref acc) C (.ok .next) s5) :
  wpAny (model X.prog X.w) X.A (comprehension (.ListComp elt [⟨tg,iter,[],0⟩,⟨tg2,iter2,[],0⟩] scope pos) scope X.env (firstIterPos [⟨tg,iter,[],0⟩,⟨tg2,iter2,[],0⟩] pos) (newList []) false (eval iter X.env) use) Q2 X.xe s:=by
 obtain⟨hfr,hcell,hkind,hnames,hcap⟩:=hall
 subst ho
 have outc:=fun y hy q=>hfr y hy q
 obtain⟨cl,hclos,hcl1,hcl2⟩:=iH fun y hy q=>I.ok.has y.1 (.inl (outc y hy q))
 refine wpAny_comprehension_free rfl hs hclos hkind hnames (thn (hi pins s σ H _ I h) fun v s1 h1=>thn h1 fun itv s2 h2=>?_)
 obtain⟨it,fp,tn,J,H2,e,I2,T,st2,f2,rest⟩:=h2
 subst e
 have hf2:=I2.hok.fresh (NK _)
 obtain⟨W,⟨m0,w0⟩,turn⟩:=rest s2.heap.objs.size hf2
 refine Of ?_
 have I3:=I2.EX (t':=s2.toks) .nil (OI _)
 have keep3:∀b o,s2.heap.get? b=some o->(s2.heap.push { cls:=.type "list", dict:=none,data:=.seq ([]:List NI).toArray }).get? b=some o:=fun b o q=>NF _ q
 have fp3:=T.obj _ _ st2
 have st3:=T.keep _ _ _ st2 fun b _ o q=>keep3 b o q
 have fpn:∀b∈fp,(upd H2 s2.heap.objs.size (HO.lst [])) b=none:=fun b hb=>by
  obtain⟨o,q,_⟩:=fp3 b hb
  rw[aw (NU (NJ q))]
  exact(f2 b hb).1
 revert I3 keep3 st3 fpn w0
 generalize hS3:({ s2 with heap:=s2.heap.push { cls:=.type "list", dict:=none,data:=.seq ([]:List NI).toArray } }:NM)=s3
 generalize hH3:upd H2 s2.heap.objs.size (HO.lst [])=H3
 intro w0 I3 keep3 st3 fpn
 generalize s2.heap.objs.size=acc at *
 have e3:s2.heap.push { cls:=.type "list", dict:=none,data:=.seq ([]:List NI).toArray }=s3.heap:=by grind
 have keep3':∀b o,s2.heap.get? b=some o->s3.heap.get? b=some o:=fun b o q=>by grind
 have st3':tn 0 s3.heap:=by grind
 refine RU hcell (by simp) (fun h₁ hns₁ hsb₁=>?_) hkind
 have hC:s3.heap.objs.size=s3.heap.objs.size:=rfl
 have keep4:∀b o,s3.heap.get? b=some o->h₁.get? b=some o:=fun b o q=>hsb₁.extBut b o (NU (NJ q)) (NF _ q)
 have fpC:∀b∈fp,b≠s3.heap.objs.size:=fun b hb=>by
  obtain⟨o,q,_⟩:=fp3 b hb
  exact NU (NJ (keep3' b o q))
 -- the block's context
 generalize hX':aZ X scope cl s3.heap.objs.size s3 H3 fp N'=X'
 have hXp:X'.prog=X.prog:=by rw[<- hX'];rfl
 have hXw:X'.w=X.w:=by rw[<- hX'];rfl
 have hXK:X'.K=X.K:=by rw[<- hX'];rfl
 have hXA:X'.A=X.A:=by rw[<- hX'];rfl
 have hXe:X'.env=compEnvC scope cl s3.heap.objs.size X.env:=by rw[<- hX'];rfl
 have hXc:X'.calm=true:=by rw[<- hX'];exact hc
 have hXx:X'.xe=fun _ _=>False:=by rw[<- hX'];exact hxe
 have hXf:X'.fs=frs X.stack:=by rw[<- hX'];rfl
 have hXex:X'.ex=fp:=by rw[<- hX'];rfl
 have hXN:X'.N=N':=by rw[<- hX'];rfl
 have hXs:X'.ax=s3:=by rw[<- hX'];rfl
 have hXH:X'.aD=H3:=by rw[<- hX'];rfl
 have hXpn:X'.pn=[]:=by rw[<- hX'];rfl
 have okX:X'.Ok:=by
  rw[<- hX']
  refine⟨I3.ok.mod,hkind,I3.ok.glob,I3.ok.blt,NK _,fun a b c p q=>I3.ok.inj a b c (hcl1 a c p) (hcl1 b c q),fun y hy=>?_,fun _ _ z=>(by cases z),I3.ok.hd,I3.ok.frames,.inl rfl,fun b hb=>⟨fpC b hb,fun y c p=>(f2 b hb).2.2.2.2.1 y c (hcl1 y c p)⟩,
   I3.bs,N4 I3.ok.bsz I3.sz,fun b o p hb=>?_,fun b hb z=>?_,I3.stack,I3.jz⟩
  ·have hy':(relabel scope X.env).names.lookup y=some .cell\/(relabel scope X.env).names.lookup y=some .free:=hy
   have free:scope.names.lookup y=some .free->∃c,cl.lookup y=some c:=fun q=>hcl2 y (lookup_mem q)
   rcases hy' with q | q
   ·rcases df q with z | ⟨z,_⟩
    ·exact absurd rfl (hcell _ (lookup_mem z))
    ·exact free z
   ·rcases df q with z | ⟨_,z⟩
    ·exact free z
    grind
  ·rcases(f2 b hb).2.2.2.1 with z | z
   ·exact I3.ok.pf b o p z
   ·exact absurd (N7 (NJ p) (N4 I3.ok.bsz z)) (O7 _)
  ·rcases NV.mp (I3.d_ b z) with q | q
   ·exact(f2 b hb).2.1 q
   ·exact(f2 b hb).2.2.1 q
 have I4:∀tk,Inv X' [] (oS tn'.length ix σ) H3 { s3 with heap:=h₁,toks:=tk }:=fun tk=>by
  have hloc:=I3.loc
  refine⟨okX,by rw[hXs],I3.bare,?_,⟨fun y=>([]:List (Str × NI)).reverse.lookup y,by rw[hXe];exact hns₁,fun i y v e1 e2 e3=>?_⟩,fun y c p=>?_,?_,fun y c p=>?_,fun p hp=>?_,?_,?_⟩
  ·rw[hXf,hXex,hXH,hXs];exact Un.kept keep4
  ·rw[hXN,hN] at e1
   by_cases hit':i<tn'.length
   ·exfalso
    unfold oS at e2
    grind
   ·have e10:N'[i]?=some y:=by grind
    obtain⟨j,rfl⟩:∃j,i=tn'.length+j:=⟨i - tn'.length,by omega⟩
    have e1':(ix.map fun i=>(X.N[i]?).getD ("" : Str))[j]?=some y:=by
     grind
    have e2':(ix.map fun i=>(σ[i]?).join)[j]?=some (some v):=by
     unfold oS at e2
     rw[N8 (by simp)] at e2
     simpa using e2
    rw[Oh] at e1' e2'
    cases hj:ix[j]? with
    | none=>grind
    | some i0=>
     rw[hj] at e1' e2'
     have e1'':(X.N[i0]?).getD ("" : Str)=y:=by simpa using e1'
     have e2'':(σ[i0]?).join=some v:=by simpa using e2'
     have hsv:σ[i0]?=some (some v):=by
      cases q:σ[i0]? with
      | none=>rw[q] at e2'';cases e2''
      | some z=>rw[q] at e2'';have:z=some v:=by simpa using e2''
                rw[this]
     have hlt:i0<X.N.length:=by
      have:=(OO.mp hsv).1
      rw[I3.len] at this;exact this
     have hNy:X.N[i0]?=some y:=by
      rw[N0 hlt] at e1'' ⊢
      simpa using e1''
     have hyt:y∈N'.drop tn'.length:=by
      refine Oc (i:=j) ?_
      rw[List.getElem?_drop];exact e10
     have hyf:=hcap y hyt
     have hyc:=outc (y,.free) (lookup_mem hyf) rfl
     obtain⟨m,hn,hl⟩:=hloc
     obtain⟨u,r,l⟩:=hl i0 y v hNy hsv (.inr (.inl hyc))
     refine⟨u,r,?_⟩
     rcases l with⟨k1,_⟩ | ⟨_,c,p,z⟩
     ·have hyc':X.env.kindOf y=some .cell:=hyc
      rw[k1] at hyc';cases hyc'
     ·obtain⟨c',p'⟩:=hcl2 y (lookup_mem hyf)
      have pc:c'=c:=by
       have:=hcl1 y c' p'
       rw[p] at this;cases this;rfl
      subst pc
      refine .inr ⟨.inl ?_,c',by rw[hXe];exact p',?_⟩
      ·rw[hXe];exact cJ I3.ok.kind hyf hyc
      ·obtain⟨o,q1,q2⟩:=z
       exact⟨o,keep4 c' o q1,q2⟩
  ·rw[hXe] at p
   obtain⟨v,o,q1,q2⟩:=I3.cell y c (hcl1 y c p)
   exact⟨v,o,keep4 c o q1,q2⟩
  ·rw[hXe];exact I3.hok.fresh (NK _)
  ·rw[hXe] at p;exact I3.cD y c (hcl1 y c p)
  ·rw[hXpn] at hp;cases hp
  ·rw[hXp,hXw];exact I3.hok.kept keep4
  ·rw[hXN,hN];simp[oS]
 -- the loop
 have stat:∀{H':Hp},(∀b∈fp,H' b=none)->∀b∈fp,lP X' [] H' b:=fun hn b hb=>by
  refine⟨hn b hb,by rw[hXe];exact fpC b hb,?_,.inl (by rw[hXex];exact hb),fun y c p=>?_,fun p hp=>by rw[hXpn] at hp;cases hp⟩
  ·rw[hXf];intro z
   rcases NV.mp (I3.d_ b z) with q | q
   ·exact(f2 b hb).2.1 q
   ·exact(f2 b hb).2.2.1 q
  ·rw[hXe] at p;exact(f2 b hb).2.2.2.2.1 y c (hcl1 y c p)
 have fin:∀{H5:Hp} {s5:NM} {σ5:St},Inv X' [] σ5 H5 s5->Q (.ref acc) H5->compPost (model X.prog X.w) X.A X.xe use Q2 (.ref acc) s3.heap.objs.size (.ok .next) s5:=fun{H5 s5 σ5} I5 q=>by
  obtain⟨m,hn,_⟩:=I5.loc
  rw[hXe] at hn
  have hn':s5.heap.Ns s3.heap.objs.size m:=hn
  obtain⟨oC,esC,epC,hC1,hC2,hC3⟩:=hn'
  have u5:=I5.base
  rw[hXf,hXex,hXH,hXs] at u5
  have fr:H5 s3.heap.objs.size=none:=by have:=I5.free;rw[hXe] at this;exact this
  have hok5:=I5.hok
  rw[hXp,hXw] at hok5
  have hos:s5.os=s3.os:=by have:=I5.os;rw[hXs] at this;exact this
  have IX:Inv X pins σ H5 s5:=I3.qo (s':=s5) (ch:=fp) hos u5 hok5 I5.bare (fun b hb=>by
   obtain⟨g0,g1,g2,g3,g4,g5⟩:=f2 b hb
   exact⟨g3,g1,g4,g5⟩)
  have cC:∀x c,X.env.cells.lookup x=some c->c≠s3.heap.objs.size:=fun x c z e=>by
   obtain⟨v,q⟩:=I3.cell x c z
   exact absurd q.lt (by rw[e];exact O7 _)
  have pC:∀p∈X.pn++pins,p.1≠s3.heap.objs.size:=fun p hp e=>by
   have:=NJ (I3.pin p hp).1
   rw[e] at this
   exact O7 _ this
  refine hfin acc s3.heap.objs.size H5 s5 oC (IX.jD fun p hp=>?_) cC I3.sz pC ⟨m,fun h' z=>⟨oC,esC,epC,z,hC2,hC3⟩⟩ q
  rcases Ou.mp hp with z | z
  ·exact IX.pin p (NP _ z)
  ·have e:=N_.mp z
   subst e
   refine⟨hC1,fr,Pu I3.lt,I3.Iv (NK _),fun v e=>?_⟩
   have e':oC.data=.cell v:=e
   rw[hC2] at e';cases e'
 have IsC:∀{σ0:St} {i:Nat} {v:Option V},gv 2 ix σ σ0->i<2->gv 2 ix σ (σ0.set i v):=fun{σ0 i v} ⟨ts,hl,e⟩ hi=>⟨ts.set i v,by rw[List.length_set];exact hl,by rw[e,List.set_append_left _ _ (by rw[hl];exact hi)]⟩
 have loop:∀tk,codeAny (model X.prog X.w) X.A (.compLoop (.ListComp elt [⟨tg,iter,[],0⟩,⟨tg2,iter2,[],0⟩] scope pos) 0 (.ref it) (.ref acc) (compEnvC scope cl s3.heap.objs.size X.env))
   (compPost (model X.prog X.w) X.A X.xe use Q2 (.ref acc) s3.heap.objs.size) { s3 with heap:=h₁,toks:=tk }:=fun tk=>by
  refine yZ (fun n s'=>∃i ys σ' H',Inv X' [] σ' H' s'/\gv 2 ix σ σ'/\tn i s'.heap/\(∀b∈fp,H' b=none)/\W i n ys H') (hs2 _) (fun n s5 h5=>?_) m0
   ⟨0,[],oS tn'.length ix σ,H3,I4 tk,⟨_,by rw[List.length_replicate];exact h2n,rfl⟩,T.keep _ _ _ st3' fun b _ o q=>keep4 b o q,fpn,w0⟩
  obtain⟨i,ys,σ5,H5,I5,hσ,st5,fr5,w5⟩:=h5
  rcases turn i n ys H5 w5 with⟨stop,q⟩ | ⟨go,step⟩
  ·have d:=T.done X' hXp hXw hXK hXc i [] s5 σ5 H5 (fun _ _=>False) I5 (stat fr5) st5 stop
   rw[hXA] at d
   refine thn d fun r s6 ⟨hr,I6⟩=>?_
   subst hr
   exact fin I6 q
  ·have d:=T.item X' hXp hXw hXK hXc i [] s5 σ5 H5 (fun _ _=>False) I5 (stat fr5) st5 go
   rw[hXA] at d
   refine thn d fun r s6 ⟨u,hr,h6⟩=>?_
   subst hr
   refine thn h6 fun _ s7 ⟨z,H7,I7,r7,y7,st7,fr7⟩=>?_
   have I7':=I7.pinned (stat fr7) (T.obj _ _ st7)
   have again:∀{H9:Hp} {s9:NM} {ys9:List V} {σ9:St},Inv X' ([]++gX fp s7.heap) σ9 H9 s9->gv 2 ix σ σ9->(∃m',m'<n/\W (i+1) m' ys9 H9)->∃m',m'<n/\∃i ys σ' H',Inv X' [] σ' H' s9/\gv 2 ix σ σ'/\tn i s9.heap/\(∀b∈fp,H' b=none)/\W i m' ys H':=fun{H9 s9 ys9 σ9} I9 c9 ⟨m',hm,w9⟩=>by
    refine⟨m',hm,i+1,ys9,_,H9,I9.fO,c9,T.keep _ _ _ st7 fun b hb o e=>(I9.pin (b,o) (NP _ (NP _ (cu hb e)))).1,fun b hb=>?_,w9⟩
    obtain⟨o,e,_⟩:=T.obj _ _ st7 b hb
    exact(I9.pin (b,o) (NP _ (NP _ (cu hb e)))).2.1
   have he':=he cl s3.heap.objs.size s3 H3 fp
   have hg':=hg cl s3.heap.objs.size s3 H3 fp
   have hg2':=hg2 cl s3.heap.objs.size s3 H3 fp
   have hi2':=hi2 cl s3.heap.objs.size s3 H3 fp
   rw[hX'] at he' hg' hg2' hi2'
   rw[<- hXe]
   have a0:=hg' _ s7 σ5 H7 z u (fun σ2 Hn=>σ2=σ5.set 0 (some z)/\Hn=H7) I7' r7 ⟨rfl,rfl⟩
   rw[hXp,hXw,hXA,hXx] at a0
   refine thn a0 fun _ s8 ⟨σ8,H8,I8,e8,e8'⟩=>?_
   subst e8 e8'
   have a1:=hi2' _ s8 _ H8 _ I8 (step σ5 z H8 hσ y7)
   rw[hXp,hXw,hXA,hXx] at a1
   refine thn a1 fun v2 s9 h9=>thn h9 fun itv2 s10 h10=>?_
   obtain⟨it2,fp2,tn2,J2,H10,e10,I10,T2,st10,f10,V,⟨m2,v0⟩,turn2⟩:=h10
   subst e10
   rw[hXp,hXw,hXK] at T2
   have stat2:∀{H':Hp},(∀b∈fp2,H' b=none)->∀b∈fp2,lP X' ([]++gX fp s7.heap) H' b:=fun hn b hb=>⟨hn b hb,(f10 b hb).2⟩
   have inner:codeAny (model X.prog X.w) X.A (.compLoop (.ListComp elt [⟨tg,iter,[],0⟩,⟨tg2,iter2,[],0⟩] scope pos) 1 (.ref it2) (.ref acc) X'.env) (fun r s'=>match r with
     | .ok _=>∃m',m'<n/\∃i ys σ' H',Inv X' [] σ' H' s'/\gv 2 ix σ σ'/\tn i s'.heap/\(∀b∈fp,H' b=none)/\W i m' ys H'
     | .error _=>False) s10:=by
    refine Bt (fun m s'=>∃j zs uo H',Inv X' ([]++gX fp s7.heap) ((σ5.set 0 (some z)).set 1 uo) H' s'/\tn2 j s'.heap/\(∀b∈fp2,H' b=none)/\V j m zs H') (fun m s11 h11=>?_) m2 ⟨0,ys,((σ5.set 0 (some z))[1]?).join,H10,?_,st10,fun b hb=>(f10 b hb).1,v0⟩
    ·obtain⟨j,zs,uo,H11,I11,st11,fr11,v11⟩:=h11
     rcases turn2 j m zs H11 v11 with⟨stop2,q2⟩ | ⟨go2,step2⟩
     ·have d:=T2.done X' hXp hXw hXK hXc j _ s11 _ H11 (fun _ _=>False) I11 (stat2 fr11) st11 stop2
      rw[hXA] at d
      refine thn d fun r s12 ⟨hr,I12⟩=>?_
      subst hr
      exact again I12 (IsC (IsC hσ (by decide)) (by decide)) q2
     ·have d:=T2.item X' hXp hXw hXK hXc j _ s11 _ H11 (fun _ _=>False) I11 (stat2 fr11) st11 go2
      rw[hXA] at d
      refine thn d fun r s12 ⟨u2,hr,h12⟩=>?_
      subst hr
      refine thn h12 fun _ s13 ⟨z2,H13,I13,r13,y13,st13,fr13⟩=>?_
      have I13':=I13.pinned (stat2 fr13) (T2.obj _ _ st13)
      have b0:=hg2' _ s13 _ H13 z2 u2 (fun σ2 Hn=>σ2=((σ5.set 0 (some z)).set 1 uo).set 1 (some z2)/\Hn=H13) I13' r13 ⟨rfl,rfl⟩
      rw[hXp,hXw,hXA,hXx] at b0
      refine thn b0 fun _ s14 ⟨σ14,H14,I14,e14,e14'⟩=>?_
      subst e14 e14'
      rw[List.set_set] at I14
      have b1:=he' _ s14 _ H14 _ I14 (step2 z2 H14 y13)
      rw[hXp,hXw,hXA,hXx] at b1
      refine thn b1 fun yv s15 ⟨y,H15,I15,r15,ks,q1,q2,q3⟩=>?_
      have b2:=fJ (X:=X') _ s15 _ H15 (.ref acc) [y] (.ref acc) [yv] (fun _ Hq=>∃m',m'<m/\V (j+1) m' (ks++[y]) Hq) I15 rfl (.cons r15 .nil) ⟨acc,ks,y,rfl,rfl,q1,q2,q3⟩
      rw[hXp,hXw,hXA,hXx] at b2
      refine thn b2 fun _ s16 ⟨_,H16,I16,_,m',hm',w16⟩=>?_
      refine⟨m',hm',j+1,ks++[y],some z2,H16,I16.fO,T2.keep _ _ _ st13 fun b hb o e=>(I16.pin (b,o) (NP _ (NP _ (cu hb e)))).1,fun b hb=>?_,w16⟩
      obtain⟨o,e,_⟩:=T2.obj _ _ st13 b hb
      exact(I16.pin (b,o) (NP _ (NP _ (cu hb e)))).2.1
    ·have:(σ5.set 0 (some z)).set 1 ((σ5.set 0 (some z))[1]?).join=σ5.set 0 (some z):=by
      obtain⟨ts,hl,e⟩:=hσ
      match ts,hl with
      | [p,q],_=>rw[e];rfl
     rw[this];exact I10
   refine Bp inner ?_
   exact T2.self _ 0 _ _ _ st10 inner
 refine codeAny_compStart_list (loop _) ?_
 exact T.self _ 0 _ _ _ (T.keep _ _ _ st3' fun b _ o q=>keep4 b o q) (loop _)
section
variable {X:Cx}{elt iter tg iter2 tg2:Expr}{scope osc:R0}{pos:Pos}{wi wi2:TI}{te:TE}
def sR {py spos:Pos} (ix) (tn' N') (h2n:tn'.length=2)
  (hxe:X.xe=fun _ _=>False) (hc:X.calm=true) (ho:X.env.scope=osc) (hN:N'=tn'++ix.map fun i=>(X.N[i]?).getD ("" : Str)) (hnd:N'.Nodup)
  (hall:(∀y∈scope.names,y.2=.free->osc.names.lookup y.1=some .cell)/\(∀y∈scope.names,y.2≠.cell)/\scope.kind=.function/\(∀y∈scope.names,y.2=.local->scope.names.lookup y.1=some .local)/\(∀y∈N'.drop tn'.length,scope.names.lookup y=some .free))
  (hi:PI X tg iter wi) (hg:∀cl C ax aD fp,PG (aZ X scope cl C ax aD fp N') tg (gq 0)) (hi2:∀cl C ax aD fp,PI (aZ X scope cl C ax aD fp N') tg2 iter2 wi2) (hg2:∀cl C ax aD fp,PG (aZ X scope cl C ax aD fp N') tg2 (gq 1))
  (he:∀cl C ax aD fp,PE (aZ X scope cl C ax aD fp N') elt te)
  (hNN:X.N.Nodup) (hy:X.N[i]?=some y) (hl:X.env.scope.names.lookup y=some .local)
  (hsw:swapsWith (.ListComp elt [⟨tg,iter,[],0⟩,⟨tg2,iter2,[],0⟩] scope pos) (some (.Name y py)) spos.line X.env=pure true:=by rfl)
  (hs:∀x,foldedSetIterable iter X.env x=pure x:=by intro _;rfl) (hs2:∀env x,foldedSetIterable iter2 env x=pure x:=by intro _ _;rfl) :
  PS X (.Assign [.Name y py] (.ListComp elt [⟨tg,iter,[],0⟩,⟨tg2,iter2,[],0⟩] scope pos) spos) (Fm (vT wi ix wi2 te) (gq i)):=by
 intro pins s σ H D I h
 rw[exec_Assign_Name_used _ _ _ _ hsw]
 refine gV (OV ?_)
 refine gV ?_
 refine gV (yX ix N' hxe hc ho hN hnd hall hi hg hi2 hg2 he hs hs2 h2n I h fun acc C H5 s5 o I5 cC hC pC hm q=>?_)
 obtain⟨m,hm⟩:=hm
 refine Sl (gU (v:=.ref acc) I5 hNN hy (.inl hl) rfl (fun s6 I6=>?_) (.inr hl))
 refine⟨m,hm _ (I6.pin (C,o) (NP _ (NP _ (N_.mpr rfl)))).1,fun h' hs'=>?_⟩
 exact NG (NG ⟨_,H5,I6.HJ cC hC pC hs',q⟩)
end
end L2
namespace L2.FE
open PySem PySem.Spec PyProof.Rows
noncomputable def gy (ix:List Nat) (env:En) (a b:Option D):En:=a::b::ix.map fun i=>(env[i]?).join
noncomputable def Bk (n0:Nat) (y:D) (h:Hh):R Unit:=match aq h n0 with
 | some ds=>if ds.length<1000000 then .ok () (h.set n0 (.lst (ds++[y]))) else .bad
 | none=>.bad
noncomputable def vg (n0:Nat) (rd:Rdr) (te:ME) (ff:D->En):Nat->Nat->Hh->R Unit
 | k,j,h=>match rd h j with
  | none=>.bad
  | some none=>.ok () h
  | some (some e)=>match k with
   | 0=>.bad
   | k+1=>(te (ff e) h).bind fun y h2=>(Bk n0 y h2).bind fun _ h3=>vg n0 rd te ff k (j+1) h3
noncomputable def rV (n0:Nat) (rd:Rdr) (mi2:MI) (te:ME) (ff:Option D->Option D->En):Nat->Nat->Hh->R Unit
 | k,i,h=>match rd h i with
  | none=>.bad
  | some none=>.ok () h
  | some (some d)=>match k with
   | 0=>.bad
   | k+1=>(mi2 (ff (some d) none) h).bind fun sr h1=>(vg n0 sr.rdr te (fun e=>ff (some d) (some e)) (sr.fuel h1) 0 h1).bind fun _ h2=>rV n0 rd mi2 te ff k (i+1) h2
noncomputable def d7 (mi:MI) (ix:List Nat) (mi2:MI) (te:ME):ME:=fun env h=>(mi env h).bind fun sr h1=>(rV h1.length sr.rdr mi2 te (gy ix env) (sr.fuel h1) 0 (h1++[.lst []])).bind fun _ h2=>.ok (.ref h1.length) h2
section
variable {K:ND}{g:GG}
def sG {α:List Addr}{H:Hp}{env:En}{σ:St}{ix:List Nat}{a b:Option D}{p q:Option V} (s:iu K g α H env σ) (ra:∀d,a=some d->∃v,p=some v/\aC K g α H d v) (rb:∀d,b=some d->∃v,q=some v/\aC K g α H d v):iu K g α H (gy ix env a b) (p::q::ix.map fun i=>(σ[i]?).join):=by
 refine⟨by simp[gy],fun i e h=>?_⟩
 match i with
 | 0=>
  have:a=some e:=by simpa [gy] using h
  simp_all
 | 1=>
  have:b=some e:=by simpa [gy] using h
  simp_all
 | i+2=>
  have h':(ix.map fun i=>(env[i]?).join)[i]?=some (some e):=by assumption
  rw[Oh] at h'
  cases ei:ix[i]? with
  | none=>simp_all
  | some j=>
   rw[ei] at h'
   have h2:(env[j]?).join=some e:=by simp_all
   cases ej:env[j]? with
   | none=>simp_all
   | some oe=>
    rw[ej] at h2
    have h3:oe=some e:=by simp_all
    subst h3
    obtain⟨u,eu,ru⟩:=s.vars j e ej
    simp_all
def r9 {n:Nat} (e:Ext K α H α' H') (h:α[n]?=some p):α'[n]?=some p:=by
 obtain⟨l,rfl⟩:=e.toEx0.pre
 grind
def zh {mi mi2:MI}{te:ME}{ix:List Nat}{σ:St}{H:Hp}{Q:VK} (t:tM K g E00 (d7 mi ix mi2 te) σ H Q):vT (tMI K g E00 mi) ix (tMI K g E00 mi2) (tM K g E00 te) σ H Q:=by
 obtain⟨α,env,h,s,w⟩:=t
 refine⟨α,env,h,s,w.bind.mono fun sr h1 _ w1 J H1 α1 e1 hr1 rd=>fun acc hacc=>?_⟩
 have s1:=s.ext e1 hr1
 have xp:Ext K α1 H1 (α1++[acc]) (upd H1 acc (.lst [])):=Ext.push hacc
 have hrp:aK K g (α1++[acc]) (upd H1 acc (.lst [])) (h1++[.lst []]):=hr1.push hacc ⟨[],aL,.nil⟩
 have p0:(α1++[acc])[h1.length]?=some acc:=by rw[<- hr1.len];simp
 refine⟨fun i m ys H=>∃α h,Ext K α1 H1 α H/\α[h1.length]?=some acc/\aK K g α H h ∧
  WQ K g E00 α1 H1 ((rV h1.length sr.rdr mi2 te (gy ix env) m i h).bind fun _ h2=>.ok (.ref h1.length) h2) (aB K g α1 H1 Q),
  ⟨sr.fuel h1,_,_,xp,p0,hrp,w1.post e1⟩,?_⟩
 rintro i m ys H2 ⟨α2,h2,x2,p2,hr2,w2⟩
 have q:=rd α2 H2 h2 x2 hr2 i
 unfold rV at w2
 cases e:sr.rdr h2 i with
 | none=>rw[e] at w2;exact w2.elim
 | some od=>
  rw[e] at w2 q
  cases od with
  | none=>exact .inl ⟨q,(show aB K g α1 H1 Q (.ref h1.length) h2 from w2) _ _ _ x2 hr2 (.ref p2)⟩
  | some d=>
   cases m with
   | zero=>exact w2.elim
   | succ m=>
    rw[bA] at w2
    have w3:=WQ.bind (show WQ K g E00 α1 H1 ((mi2 (gy ix env (some d) none) h2).bind _) _ from w2)
    refine .inr ⟨q.1,fun σ0 x H3 hcap y=>?_⟩
    obtain⟨ts,hl,hσ0⟩:=hcap
    match ts,hl with
    | [v0,q0],_=>
    subst hσ0
    obtain⟨α3,x3,hr3,rx⟩:=q.2 x H3 y
    have s3:cM K g α3 H3 (gy ix env (some d) none) (some x::q0::ix.map fun i=>(σ[i]?).join) h2:=⟨hr3,sG (s1.vs.ext (x2.trans x3)) (fun d' hd=>by simp_all) (fun d' hd=>by cases hd)⟩
    refine⟨α3,_,h2,s3,((w3.ext x2).ext x3).mono fun sr2 h4 _ w4 J2 H4 α4 x4 hr4 rd2=>?_⟩
    have x14:=x2.trans (x3.trans x4)
    have p4:=r9 (x3.trans x4) p2
    refine⟨fun j m2 zs H=>∃α h,Ext K α4 H4 α H/\aK K g α H h ∧
     WQ K g E00 α1 H1 (((vg h1.length sr2.rdr te (fun e=>gy ix env (some d) (some e)) m2 j h).bind fun _ h2=>rV h1.length sr.rdr mi2 te (gy ix env) m (i+1) h2).bind fun _ h2=>.ok (.ref h1.length) h2) (aB K g α1 H1 Q),
     ⟨sr2.fuel h4,α4,h4,Ext.refl,hr4,w4⟩,?_⟩
    rintro j m2 zs H5 ⟨α5,h5,x5,hr5,w5⟩
    have q2:=rd2 α5 H5 h5 x5 hr5 j
    have p5:=r9 x5 p4
    unfold vg at w5
    cases e2:sr2.rdr h5 j with
    | none=>rw[e2] at w5;exact w5.elim
    | some od2=>
     rw[e2] at w5 q2
     cases od2 with
     | none=>exact .inl ⟨q2,m,P2 _,α5,h5,x14.trans x5,p5,hr5,w5⟩
     | some d2=>
      cases m2 with
      | zero=>exact w5.elim
      | succ m2=>
       have w6:WQ K g E00 α1 H1 ((te (gy ix env (some d) (some d2)) h5).bind fun y h2=>(((Bk h1.length y h2).bind fun _ h3=>vg h1.length sr2.rdr te (fun e=>gy ix env (some d) (some e)) m2 (j+1) h3).bind fun _ h2=>rV h1.length sr.rdr mi2 te (gy ix env) m (i+1) h2).bind fun _ h2=>.ok (.ref h1.length) h2) (aB K g α1 H1 Q):=by
        have:=w5
        simp only[bA] at this ⊢
        omega
       refine .inr ⟨q2.1,fun yv H6 yy=>?_⟩
       obtain⟨α6,x6,hr6,ry⟩:=q2.2 yv H6 yy
       have s6:cM K g α6 H6 (gy ix env (some d) (some d2)) (some x::some yv::ix.map fun i=>(σ[i]?).join) h5:=⟨hr6,sG (s1.vs.ext (x14.trans (x5.trans x6))) (fun d' hd=>by cases hd;exact⟨x,rfl,rx.ext (x4.trans (x5.trans x6))⟩) (fun d' hd=>by simp_all)⟩
       refine tM.use s6 ((WQ.bind w6).ext (x14.trans (x5.trans x6))) fun y h7 v7 H7 α7 x7 s7 r7 w7=>?_
       have p7:=r9 (x6.trans x7) p5
       unfold Bk at w7
       cases el:aq h7 h1.length with
       | none=>rw[el] at w7;exact w7.elim
       | some ds=>
        rw[el] at w7
        dsimp only at w7
        by_cases hlen:ds.length<1000000
        ·rw[if_pos hlen] at w7
         obtain⟨vs,hv,rs⟩:=s7.heap.lst el p7
         have x:=Ext.write (o:=.lst (vs++[v7])) s7.heap p7
         exact⟨vs,hv,by rw[<- rs.length,OY];omega,m2,P2 _,α7,_,(x5.trans (x6.trans x7)).trans x,s7.heap.write (u':=.lst (ds++[y])) p7 ⟨_,aL,(rs.append (.cons r7 .nil)).ext x⟩,w7⟩
        ·rw[if_neg hlen] at w7;exact w7.elim
end
section
variable {X:Cx}{g:GG}
def nU {elt iter iter2:Expr}{x y z:Str}{px py pz:Pos}{scope osc:R0}{pos spos:Pos}{mi mi2:MI}{te:ME}{i:Nat} (ix:List Nat) (N':List Str)
  (hxe:X.xe=fun _ _=>False) (hc:X.calm=true) (ho:X.env.scope=osc) (hN:N'=[x,y]++ix.map fun i=>(X.N[i]?).getD ("" : Str)) (hnd:N'.Nodup)
  (hall:(∀y∈scope.names,y.2=.free->osc.names.lookup y.1=some .cell)/\(∀y∈scope.names,y.2≠.cell)/\scope.kind=.function/\(∀y∈scope.names,y.2=.local->scope.names.lookup y.1=some .local)/\(∀z∈N'.drop [x,y].length,scope.names.lookup z=some .free))
  (hi:PI X (.Name x px) iter (tMI X.K g E00 mi))
  (hx:∀cl C ax aD fp,Loc (aZ X scope cl C ax aD fp N').env.scope x/\(aZ X scope cl C ax aD fp N').env.scope.names.lookup x=some .local) (hy:∀cl C ax aD fp,Loc (aZ X scope cl C ax aD fp N').env.scope y/\(aZ X scope cl C ax aD fp N').env.scope.names.lookup y=some .local)
  (hi2:∀cl C ax aD fp,PI (aZ X scope cl C ax aD fp N') (.Name y py) iter2 (tMI X.K g E00 mi2))
  (he:∀cl C ax aD fp,PE (aZ X scope cl C ax aD fp N') elt (tM X.K g E00 te))
  (hNN:X.N.Nodup) (hz:X.N[i]?=some z) (hl:X.env.scope.names.lookup z=some .local:=by rfl)
  (hsw:swapsWith (.ListComp elt [⟨.Name x px,iter,[],0⟩,⟨.Name y py,iter2,[],0⟩] scope pos) (some (.Name z pz)) spos.line X.env=pure true:=by rfl)
  (hs:∀x,foldedSetIterable iter X.env x=pure x:=by intro _;rfl) (hs2:∀env x,foldedSetIterable iter2 env x=pure x:=by intro _ _;rfl) :
  PS X (.Assign [.Name z pz] (.ListComp elt [⟨.Name x px,iter,[],0⟩,⟨.Name y py,iter2,[],0⟩] scope pos) spos) (tMS X.K g E00 (aW i (d7 mi ix mi2 te))):=
 PS.imp (sR ix [x,y] N' rfl hxe hc ho hN hnd hall hi (fun cl C ax aD fp=>jP hnd (show N'[0]?=some x by grind) (hx cl C ax aD fp).1 (.inr (hx cl C ax aD fp).2)) hi2 (fun cl C ax aD fp=>jP hnd (show N'[1]?=some y by grind) (hy cl C ax aD fp).1 (.inr (hy cl C ax aD fp).2)) he hNN hz hl hsw hs hs2) fun E σ H ⟨α,env,h,s,w⟩=>zh (tM.use s w.bind fun d1 h1 v1 H1 α1 e1 s1 r1 w1=>(show cH X.K g α H E (.nx (env.set i (some d1))) h1 from w1) H1 α1 e1 s1.heap _ (s1.vs.set r1))
end
noncomputable def exitQ (h:Hh):D->Hh->R D:=fun d h'=>match d with
 | .ref n=>gi h (.ref n) h'
 | d=>bg h d h'
def ui (h) (r:R D):r.bind (exitQ h)=r.bind (gi h)\/r.bind (exitQ h)=r.bind (bg h):=by
 cases r with
 | ok d h'=>cases d<;>first | exact .inl rfl | exact .inr rfl
 | err x h'=>simp
 | bad=>simp
section
variable {P:NT}{w:Oe}{K:ND}{mg:Str->Option NI}{base:Heap}{g:GG}{k np:Nat}{f:Addr}{fd:P_}{ps:List Str}{m:MF}
def AE {CX:CXT}{ε:XK->EE} (F:b9 P w K mg base CX k f fd ps (spG K g ε np m)):b9 P w K mg base CX k f fd ps (spG K g ε np fun ds h=>(m ds h).bind (exitQ h)):=by
 have cv:∀{vs:List V} {H:Hp} {Q:VK} {E:XK},spG K g ε np (fun ds h=>(m ds h).bind (exitQ h)) vs H Q E->spG K g ε np (fun ds h=>(m ds h).bind (gi h)) vs H Q E\/spG K g ε np (fun ds h=>(m ds h).bind (bg h)) vs H Q E:=fun{vs H Q E} ⟨hl,α,ds,h,rs,hh,w⟩=>by
  rcases ui h (m ds h) with e | e
  ·exact .inl ⟨hl,α,ds,h,rs,hh,by simp_all⟩
  ·exact .inr ⟨hl,α,ds,h,rs,hh,by simp_all⟩
 refine⟨fun vs H Q E h=>?_,fun A outer s H args us vs Q E hr e0 hb hv hsp=>?_⟩
 ·rcases cv h with h | h
  ·exact(nQ F).len vs H Q E h
  ·exact(fX F).len vs H Q E h
 ·rcases cv hsp with h | h
  ·exact(nQ F).run A outer s H args us vs Q E hr e0 hb hv h
  ·exact(fX F).run A outer s H args us vs Q E hr e0 hb hv h
end
def Bd (x:Str) (st:Stmt) (ps:List Str):Prop:=∀(kV doc pm:NI) (an:Option Addr) (cdv ct:NI) (us:List NI),us.length=ps.length->bindArgs (OP x x (cf st) (aP st) (ag st) .none kV doc pm an cdv ct) ⟨us,[]⟩=pure (ps.zip us)
section
variable {P:NT}{w:Oe}{K:ND}{mg:Str->Option NI}{base:Heap}{g:GG}{x:Str}{st:Stmt}{k:Nat}{N ps:List Str}{mb:MS}{m:MF}
def fsc {sc:R0} (a:sc.kind=.function/\sc.isCoroutine=false/\sc.isGenerator=false) (b:(N.Nodup/\N.take ps.length=ps)/\(∀x∈ps,sc.names.lookup x=some .local\/sc.names.lookup x=some .cell)/\∀y∈sc.names,y.2≠.free):az N ps sc:=⟨a.1,a.2.1,a.2.2,b.1.1,b.1.2,b.2.1,b.2.2⟩
def iw (D:aG K mg x st) (S:az N ps (ag st)) (B:Bd x st ps)
  (hb:N.Nodup->∀(f:Addr) (cdv:NI) (A:Oa) (outer:List Env) (s:NM) (H:Hp) (E:XK),bG k (A.deeper (envOfC x (ag st) s.heap.objs.size f cdv)) →
   PSs (dW CX0 P w K mg base N x (ag st) f cdv A outer s H E).nox (aP st) (tMS K g E00 mb)):Has P w K mg base g x (k+1) ps (bF N.length mb):=
 let ⟨f,fd,hm,F⟩:=D
 ⟨f,fd,vG F S (hb S.nd f),F.kp,F.binds B,hm,c6 F⟩
def HZ (D:aG K mg x st) (S:az N ps (ag st)) (B:Bd x st ps)
  (hb:N.Nodup->∀(f:Addr) (cdv:NI) (A:Oa) (outer:List Env) (s:NM) (H:Hp) (E:XK),bG k (A.deeper (envOfC x (ag st) s.heap.objs.size f cdv)) →
   eY (dW (CXE P w) P w K mg base N x (ag st) f cdv A outer s H E) E->Plain (dW (CXE P w) P w K mg base N x (ag st) f cdv A outer s H E) →
   Sm (model P w) (A.deeper (envOfC x (ag st) s.heap.objs.size f cdv)) (envOfC x (ag st) s.heap.objs.size f cdv) (dW (CXE P w) P w K mg base N x (ag st) f cdv A outer s H E).xe →
   PSs (dW (CXE P w) P w K mg base N x (ag st) f cdv A outer s H E) (aP st) (tMS K g (εX g E) mb)):jC P w K mg base g x (k+1) ps (bF N.length mb):=
 let ⟨f,fd,hm,F⟩:=D
 ⟨f,fd,BW F S (hb S.nd f),F.kp,F.binds B,hm⟩
def D4 (h:Has P w K mg base g x k ps m):Has P w K mg base g x k ps fun ds h=>(m ds h).bind (bg h):=let ⟨f,fd,a,b⟩:=h;⟨f,fd,fX a,b⟩
def Mj (h:Has P w K mg base g x k ps m):Has P w K mg base g x k ps fun ds h=>(m ds h).bind (gi h):=let ⟨f,fd,a,b⟩:=h;⟨f,fd,nQ a,b⟩
def Mk (h:Has P w K mg base g x k ps m):Has P w K mg base g x k ps (pA m):=let ⟨f,fd,a,b⟩:=h;⟨f,fd,BQ a,b⟩
def bd1 {p:Str} (h:∀kV doc pm an cdv ct a,bindArgs (OP x x (cf st) (aP st) (ag st) .none kV doc pm an cdv ct) ⟨[a],[]⟩=pure ([p].zip [a])):Bd x st [p]:=fun _ _ _ _ _ _ us hl=>Bu hl (h _ _ _ _ _ _)
def bd2 {p q:Str} (h:∀kV doc pm an cdv ct a b,bindArgs (OP x x (cf st) (aP st) (ag st) .none kV doc pm an cdv ct) ⟨[a,b],[]⟩=pure ([p,q].zip [a,b])):Bd x st [p,q]:=fun _ _ _ _ _ _ us hl=>wO hl (h _ _ _ _ _ _)
def bd3 {p q r:Str} (h:∀kV doc pm an cdv ct a b c,bindArgs (OP x x (cf st) (aP st) (ag st) .none kV doc pm an cdv ct) ⟨[a,b,c],[]⟩=pure ([p,q,r].zip [a,b,c])):Bd x st [p,q,r]:=fun _ _ _ _ _ _ us hl=>GA hl (h _ _ _ _ _ _)
end
section
variable {X:Cx}{g:GG}{E:XK}{k j:Nat}{ps:List Str}{m:MF}{x:Str}{p pos:Pos}{e:Expr}{es:List Expr}{mr:MA}
def cQ (F:Has X.prog X.w X.K X.mg X.base g x j ps m) (hr:bG k X.A) (ha:PA X (e::es) (tMA X.K g E00 mr)) (hlen:∀env h ds h',mr env h=.ok ds h'->ds.length=ps.length) (hj:j<=k:=by decide) (hg:Gl X x:=by rfl) (hdb:(x == ("__debug__" : Str))=false:=by decide) (he:starEach (e::es) X.env=(false,eval e X.env)::starEach es X.env:=by rfl) (hpl:(backTo pos (starEach es X.env)).any (·.1)=false:=by rfl) :
  PE X (.Call (.Name x p) (e::es) [] pos) (tM X.K g E00 (ah m mr)):=
 let ⟨_,_,G,hk,B,hm,_⟩:=F
 Fs (G.mono hj) hr hg hm hk B ha hlen hdb he hpl
def kX (fl:eY X E) (pl:Plain X) (F:jC X.prog X.w X.K X.mg X.base g x j ps m) (hr:bG k X.A) (ha:PA X (e::es) (tMA X.K g (εX g E) mr)) (hlen:∀env h ds h',mr env h=.ok ds h'->ds.length=ps.length) (hj:j<=k:=by decide) (hg:Gl X x:=by rfl) (hdb:(x == ("__debug__" : Str))=false:=by decide) (he:starEach (e::es) X.env=(false,eval e X.env)::starEach es X.env:=by rfl) (hpl:(backTo pos (starEach es X.env)).any (·.1)=false:=by rfl) :
  PE X (.Call (.Name x p) (e::es) [] pos) (tM X.K g (εX g E) (ah m mr)):=
 let ⟨_,_,G,hk,B,hm⟩:=F
 CS fl pl (G.mono hj) hr hg hm hk B ha hlen hdb he hpl
end
variable {X:Cx}{g:GG}
def yM {K:ND}{ε:EE}{mi:MI}{ix:List Nat}{tt:TT}{te:TE}{σ:St}{H:Hp}{Q:VK} (t:FR (tMI K g ε mi) ix tt te σ H Q):rg (tMI K g ε mi) 1 ix (gq 0) tt te σ H Q:=by
 obtain⟨α,env,h,s,w⟩:=t
 refine⟨α,env,h,s,w.mono fun sr h1 _ z J H' α' e hr rd acc ha=>?_⟩
 obtain⟨W,w0,st⟩:=z J H' α' e hr rd acc ha
 refine⟨W,w0,fun i m ys H1 hw=>(st i m ys H1 hw).imp id fun⟨a,b⟩=>⟨a,fun σ0 x H2 hc hy=>?_⟩⟩
 obtain⟨ts,tl,rfl⟩:=hc
 match ts,tl with
 | [t0],_=>exact⟨⟨[some x],rfl,rfl⟩,b x H2 hy⟩
def eM [iz nl]{elt iter:Expr}{x:Str}{px:Pos}{ifs:List Expr}{scope osc:R0}{pos:Pos}{mi:MI}{tt:MT}{te:ME} (ix) (N')
  (hxe:X.xe=fun _ _=>False) (hc:X.calm=true) (ho:X.env.scope=osc) (hN:N'=x::ix.map fun i=>(X.N[i]?).getD ("" : Str)) (hnd:N'.Nodup)
  (hall:(∀y∈scope.names,y.2=.free->osc.names.lookup y.1=some .cell)/\(∀y∈scope.names,y.2≠.cell)/\scope.kind=.function/\(∀y∈scope.names,y.2=.local->scope.names.lookup y.1=some .local)/\scope.names.lookup x=some .local/\(∀y∈N'.tail,scope.names.lookup y=some .free))
  (hi:PI X (.Name x px) iter (tMI X.K g E00 mi))
  (ht:∀cl C ax aD fp,PTs (aZ X scope cl C ax aD fp N') ifs (tMT X.K g E00 tt))
  (he:∀cl C ax aD fp,PE (aZ X scope cl C ax aD fp N') elt (tM X.K g E00 te))
  (hs:∀x,foldedSetIterable iter X.env x=pure x:=by intro _;rfl) :
  PE X (.ListComp elt [⟨.Name x px,iter,ifs,0⟩] scope pos) (tM X.K g E00 (c7 nl mi ix tt te)):=by
 refine PE.imp (PE.frz (C4 ix [x] N' hxe hc ho hN hnd ⟨hall.1,hall.2.1,hall.2.2.1,hall.2.2.2.1,fun y hy=>hall.2.2.2.2.2 y (by simp_all)⟩ hi (fun cl C ax aD fp=>jP hnd (show N'[0]?=some x by grind) (.inl (QN hall.2.2.2.2.1)) (.inr (QN hall.2.2.2.2.1))) ht he hs)) fun σ H Q t=>?_
 exact yM (vh (fun _ _ z=>z) t)
def mT {nl:NL} [iz nl]{elt iter:Expr}{x z:Str}{px pz:Pos}{ifs:List Expr}{scope osc:R0}{pos spos:Pos}{mi:MI}{tt:MT}{te:ME}{i:Nat} (ix:List Nat) (N':List Str)
  (hxe:X.xe=fun _ _=>False) (hc:X.calm=true) (ho:X.env.scope=osc) (hN:N'=x::ix.map fun i=>(X.N[i]?).getD ("" : Str)) (hnd:N'.Nodup)
  (hall:(∀y∈scope.names,y.2=.free->osc.names.lookup y.1=some .cell)/\(∀y∈scope.names,y.2≠.cell)/\scope.kind=.function/\(∀y∈scope.names,y.2=.local->scope.names.lookup y.1=some .local)/\scope.names.lookup x=some .local/\(∀y∈N'.tail,scope.names.lookup y=some .free))
  (hi:PI X (.Name x px) iter (tMI X.K g E00 mi))
  (ht:∀cl C ax aD fp,PTs (aZ X scope cl C ax aD fp N') ifs (tMT X.K g E00 tt))
  (he:∀cl C ax aD fp,PE (aZ X scope cl C ax aD fp N') elt (tM X.K g E00 te))
  (hNN:X.N.Nodup) (hz:X.N[i]?=some z) (hl:X.env.scope.names.lookup z=some .local:=by rfl)
  (hsw:swapsWith (.ListComp elt [⟨.Name x px,iter,ifs,0⟩] scope pos) (some (.Name z pz)) spos.line X.env=pure true:=by rfl)
  (hs:∀x,foldedSetIterable iter X.env x=pure x:=by intro _;rfl) :
  PS X (.Assign [.Name z pz] (.ListComp elt [⟨.Name x px,iter,ifs,0⟩] scope pos) spos) (tMS X.K g E00 (aW i (c7 nl mi ix tt te))):=by
 refine PS.imp (PS.frz (sN ix [x] N' hxe hc ho hN hnd ⟨hall.1,hall.2.1,hall.2.2.1,hall.2.2.2.1,fun y hy=>hall.2.2.2.2.2 y (by simp_all)⟩ hi (fun cl C ax aD fp=>jP hnd (show N'[0]?=some x by grind) (.inl (QN hall.2.2.2.2.1)) (.inr (QN hall.2.2.2.2.1))) ht he hNN hz hl hsw hs)) fun E σ H ⟨α,env,h,s,w⟩=>yM (vh (fun v H1 z=>Ez z) (tM.use s w.bind fun d1 h1 v1 H1 α1 e1 s1 r1 w1=>(show cH X.K g α H E (.nx (env.set i (some d1))) h1 from w1) H1 α1 e1 s1.heap _ (s1.vs.set r1)))
end L2.FE
namespace L2
open PySem PySem.Spec PyProof.Rows
def lK (h:Heap) (d:Addr) (es:Array Um) (ep:Nat):Prop:=∃q,h.get? d=some q/\q.ExactDict/\q.data=.dict es ep
section
variable {prog:NT}{w:Oe}{A:Oa}{E:NI->NM->Prop}{s:NM}{it d:Addr}{i ep:Nat}{es:Array Um}
def lK.typeIs (x:lK s.heap d es ep):s.TypeIs (.ref d) "dict" := let ⟨q,a,b,_⟩:=x;⟨q,a,b.1⟩
def lK.keep {h h':Heap} (x:lK h d es ep) (k:∀q,h.get? d=some q->h'.get? d=some q):lK h' d es ep:=let ⟨q,a,b⟩:=x;⟨q,k q a,b⟩
def lK.lt {h:Heap} (x:lK h d es ep):d<h.objs.size:=let ⟨_,a,_⟩:=x;NJ a
def A4 (lo:(d == sysModules)=false) (x:lK s.heap d es ep)
  (hQ:Q (.ref s.heap.objs.size) { s with heap:=s.heap.push { cls:=.type "dict_keyiterator", data:=.fields #[.ref d,.int 0 0,.int es.size 0,.int ep 0] } }):wpAny (model prog w) A (pyIter (.ref d)) Q E s:=by
 obtain⟨q,a,_,c⟩:=id x
 have T:=x.typeIs
 refine Sv T F.slot_dict_iter (OA F.slot_dict_iter T F.entry_dict_iter (by
  unfold Ow.«dict.__iter__»;refine gV ?_
  refine gV (wpAny_notOrdered_dict T ?_);refine NG ?_
  show wpAny _ _ (Ow.Dict.showsAll d >>= _) _ _ s;unfold Ow.Dict.showsAll;rw[if_neg (by simp_all)]
  refine gV (NG (gV (Sw a c (gV (Tc a c (gV (Of (NG ⟨_,rfl,"dict_keyiterator", _,⟨_,NN _ rfl,rfl⟩,Pc.lookup,?_⟩))))))))
  assumption) (F.args_dict_iter_1 _))
def BL (hi:s.heap.IsKeyIter it d i es.size ep) (x:lK s.heap d es ep) (lt)
  (hQ:∀h',h'.IsKeyIter it d (i+1) es.size ep->PC it s.heap h'->Q (some es[i].key) { s with heap:=h' }):wpAny (model prog w) A (pyNext (.ref it)) Q E s:=by
 obtain⟨p,p1,p2,p3⟩:=id hi
 obtain⟨q,a,_,c⟩:=id x
 have own:Ow.Dict_items.ownsTuple "dict_keyiterator" = false:=by decide
 refine gV (Ql (OH hi.typeIs Pc (OA Pc hi.typeIs F.entry_dict_keyiterator_next ?_ (F.args_dict_keyiterator_next_1 _))))
 refine gV (NG (gV (gV ?_)))
 refine gV (Px hi.typeIs (NG (gV (To p1 p3 ?_))))
 simp only[if_false];show wpAny _ _ (if (Ob d == OS)=true then _ else _) _ _ s
 rw[if_neg (show ¬ ((Ob d == OS)=true) from Og)];refine gV (NG (gV (Sw a c ?_)))
 rw[if_neg (by simp)];refine gV (NG (gV (Tc a c ?_)));rw[if_neg (by simp)];refine NG ?_
 simp only[Rx,Pt lt];refine gV ?_
 refine gV (Px hi.typeIs (NG (gV (wpAny_isOneOf_keyiter hi.typeIs ?_))))
 show wpAny _ _ (setField (.ref it) 1 (rawInt ((i:Int)+1)) >>= _) _ _ s;refine gV (Qq p1 p3 (by simp) ?_)
 have hi':(s.heap.update it (Qk (·.setIfInBounds 1 (rawInt ((i:Int)+1))))).IsKeyIter it d (i+1) es.size ep:=⟨_,Oy _ p1 (O9 (OE p3 _)),(Sr ..).trans p2,by rw[OE p3];rfl⟩
 refine gV (N9 (gV (wpAny_isOneOf_keyiter (s:={ s with heap:=s.heap.update it (Qk (·.setIfInBounds 1 (rawInt ((i:Int)+1)))) }) hi'.typeIs ?_)))
 show wpAny _ _ (pure es[i].key) _ _ _;exact NG (NG ⟨_,rfl,NG (hQ _ hi' (Pp ..))⟩)
def Ef (hh:A.handled=none) (hi:s.heap.IsKeyIter it d i es.size ep) (x:lK s.heap d es ep) (ge:es.size<=i)
  (hQ:∀h',T9 it s.heap h'->Q none { s with heap:=h' }):wpAny (model prog w) A (pyNext (.ref it)) Q E s:=by
 obtain⟨p,p1,p2,p3⟩:=id hi
 obtain⟨q,a,_,c⟩:=id x
 have own:Ow.Dict_items.ownsTuple "dict_keyiterator" = false:=by decide
 refine gV (Ql (OH hi.typeIs Pc (OA Pc hi.typeIs F.entry_dict_keyiterator_next ?_ (F.args_dict_keyiterator_next_1 _))))
 refine gV (NG (gV (gV ?_)))
 refine gV (Px hi.typeIs (NG (gV (To p1 p3 ?_))))
 simp only[if_false];show wpAny _ _ (if (Ob d == OS)=true then _ else _) _ _ s
 rw[if_neg (show ¬ ((Ob d == OS)=true) from Og)];refine gV (NG (gV (Sw a c ?_)))
 rw[if_neg (by simp)];refine gV (NG (gV (Tc a c ?_)));rw[if_neg (by simp)];refine NG ?_
 simp only[Rx,Qr ge];refine gV ?_
 refine gV (Px hi.typeIs (NG ?_))
 show wpAny _ _ (setField (.ref it) 0 .none >>= _) _ _ s;refine gV (Qq p1 p3 (by simp) ?_)
 show wpAny _ _ (newExc (.type "StopIteration") [] >>= _) _ _ _;refine gV ?_
 refine gV (Of (gV (m:=firstArgMember _ _) (SI (a:=OS) (by rfl) (Of ?_ (by size_fits)))) (by size_fits))
 simp only[raiseNew];refine gV (TH ?_);rw[show A.in1.handled=none from hh]
 refine gV (NG (T_ ?_));refine gV (SU (T:="StopIteration") (b:=true) ⟨_,NN _ rfl,rfl⟩ isSubtype_stop ?_)
 exact NG (hQ _ (((Pp ..).extBut.push _).push _))
def zr (hh:A.handled=none) (I) (ne:d≠I):Ur prog w A I [I,d] [I] es.size (fun j v=>∃e,es[j]?=some e/\v=e.key) (fun j h=>h.IsKeyIter I d j es.size ep/\lK h d es ep) where
 sub:=fun b hb=>by simp_all
 frame:=fun _ _ _ st hk=>⟨st.1.at fun o e=>hk I (by simp) o e,st.2.keep fun o e=>hk d (by simp) o e⟩
 item:=fun j s Q E hj st hQ=>BL st.1 st.2 hj fun h' a b=>hQ _ h' s.toks ⟨_,Pt hj,rfl⟩ ⟨a,st.2.keep fun o e=>b.extBut d o ne e⟩ fun c o hc e=>b.extBut c o (fun z=>hc (by simp[z])) e
 done:=fun s Q E st hQ=>Ef hh st.1 st.2 (NK _) fun h' a=>hQ h' s.toks fun c o hc e=>a c o (fun z=>hc (by simp[z])) e
 self:=fun _ _ _ _ st hQ=>wpAny_pyIter_keyiter st.1 hQ
def E2 (lo:(d == sysModules)=false):Sh prog w "dict" d d es.size (fun j v=>∃e,es[j]?=some e/\v=e.key) (fun h=>lK h d es ep) where
 type:=fun _ x=>x.typeIs
 there:=fun _ x=>⟨x.lt,x.lt⟩
 keep:=fun _ _ x k=>x.keep fun o e=>k d (.inl rfl) o e
 notList:=by decide
 notTuple:=by decide
 hint:=fun _ _ _ _ x hq=>PySem.W.kdl_hint_dict x.typeIs hq
 iter:=fun _ _ hh x=>⟨_,_,(fun _ _ hq=>A4 lo x hq),zr hh _ (NU x.lt),⟨⟨_,NN _ rfl,rfl,rfl⟩,x.keep fun o e=>NF _ e⟩⟩
end
def iJ (hc:X.calm=true):aV X (.type "list") (fun xs H Q=>∃p kvs,xs=[.ref p]/\H p=some (.dT kvs)/\∀l bs,H l=none->Paired (fun(kv:List Key × V) b=>H b=some (.tup (kv.1.map kV))) kvs bs->Q (.ref l) (upd H l (.lst (bs.map V.ref)))):=by
 intro pins s σ H xs us Q I r h
 obtain⟨p,kvs,rfl,hp,q⟩:=h
 obtain⟨u,rfl,rx⟩:=vals1 r
 cases rx
 obtain⟨z,lo,ws,rel,ob,es,ep,h1,h2,h3,h4,h5⟩:=I.hok p _ hp
 have sz:es.size=ws.length:=by rw[<- NX,h4,NY]
 have zz:=rel.length
 refine PySem.W.kdl_call (E2 lo) (I.ok.hd hc) ⟨ob,h1,h2,h3⟩ (by omega) fun h' tk acc c kp e hi=>?_
 have pb:Paired (fun(kv:List Key × V) b=>H b=some (.tup (kv.1.map kV))) kvs (ws.map fun x=>x.2.1):=by
  clear hi h5 h4 zz sz z q hp
  induction rel with
  | nil=>exact .nil
  | cons a _ ih=>exact .cons a.2.1 ih
 refine⟨.ref s.heap.objs.size,_,I.laid kp (NK _) (show a_ X.prog X.w _ h' _ (.lst _) from⟨?_,acc.toList,c,?_,by omega⟩),rfl,q _ _ (I.hok.fresh (NK _)) pb⟩
 ·simp_all
 ·refine FE.sM _ _ (by rw[NX,hi.1,NY,NY,sz]) fun j u hj=>?_
  obtain⟨en,e1,e2⟩:=hi.2 j u (by simp_all)
  rw[<- Oq,h4,Oh] at e1
  cases ej:ws[j]? with
  | none=>simp_all
  | some y=>
   rw[ej] at e1
   cases e1
   refine⟨.ref y.2.1,by simp_all,?_⟩
   rw[e2];rfl
end L2
namespace L2.FE
open PySem PySem.Spec PyProof.Rows
noncomputable def unK:Key->D
 | .inl i=>.int i
 | .inr x=>.str x
noncomputable def tupK (k:List Key):D:=.tup (k.map unK)
noncomputable def gK (nl:NL):List D->Hh->R D:=fun ds h=>match ds with
 | [.ref n]=>match cG h n with
  | some kvs=>nl (kvs.map fun kv=>tupK kv.1) h
  | none=>.bad
 | _=>.bad
theorem rQ {K:ND}{g:GG}{α:List Addr}{H:Hp}:∀k:List Key,ao K g α H (k.map unK) (k.map kV)
 | []=>.nil
 | .inl i::r=>.cons (.int i) (rQ r)
 | .inr x::r=>.cons (.str x) (rQ r)
theorem tE {K:ND}{g:GG}{α:List Addr}{H:Hp}:∀{kvs:List (List Key × D)}{kws:List (List Key × V)}{bs:List Addr},PDT K g α H kvs kws->Paired (fun(kv:List Key × V) b=>H b=some (.tup (kv.1.map kV))) kws bs->ao K g α H (kvs.map fun kv=>tupK kv.1) (bs.map V.ref)
 | _,_,_,.nil,.nil=>.nil
 | _,_,_,.cons c r,.cons a t=>.cons (.tup a (by rw[c.1];exact rQ _)) (tE r t)
def uK {K:ND}{g:GG}{ε:EE}{nl:NL} [iz nl]:kF K g ε (gK nl) (fun xs H Q=>∃p kvs,xs=[.ref p]/\H p=some (.dT kvs)/\∀l bs,H l=none->Paired (fun(kv:List Key × V) b=>H b=some (.tup (kv.1.map kV))) kvs bs->gx Q (.ref l) (upd H l (.lst (bs.map V.ref)))):=by
 intro α H h a x Q r ra w
 obtain⟨d,v,rfl,rfl,rd⟩:=kE (fun d _ _ _=>by cases d<;>rfl) (fun _=>rfl) ra w
 unfold gK at w
 cases rd with
 | @ref n p hp=>
  simp only at w
  cases e:cG h n with
  | none=>rw[e] at w;exact w.elim
  | some kvs=>
   rw[e] at w
   obtain⟨kws,hd,rs⟩:=r.dit e hp
   exact⟨p,kws,rfl,hd,fun l bs hl pb=>NL.post w r (tE rs pb) hl⟩
 | _=>exact w.elim
noncomputable def qZ:D->D->D->Hh->R D:=fun o i x h=>match o,lS i with
 | .ref n,some k=>match cG h n with
  | some kvs=>.ok ((rE kvs k).getD x) h
  | none=>.bad
 | _,_=>.bad
noncomputable def mO (mo mi mx:ME):ME:=fun env h=>(mo env h).bind fun o h1=>match o with
 | .ref n=>match cG h1 n with
  | some _=>(mi env h1).bind fun i h2=>(mx env h2).bind fun x h3=>qZ o i x h3
  | none=>.bad
 | _=>.bad
section
variable {X:Cx}{g:GG}{ε:EE}{o e f:Expr}{mo me mf:ME}{apos cpos:Pos}
def Ci (hu:X.A.units+1<cLine) (ho:PE X o (tM X.K g ε mo)) (he:PE X e (tM X.K g ε me)) (hf:PE X f (tM X.K g ε mf)) (m:M2 X o "get" apos e f cpos):PE X (.Call (.Attribute o "get" apos) [e,f] [] cpos) (tM X.K g ε (mO mo me mf)):=
 PE.imp (BR hu ho he hf m) fun σ H Q ⟨α,env,h,s,w⟩=>tM.use s w.bind fun d1 h1 v1 H1 α1 e1 s1 r1 w1=>by
  cases r1 with
  | @ref n p hp=>
   simp only at w1
   cases ed:cG h1 n with
   | none=>rw[ed] at w1;exact w1.elim
   | some kvs0=>
    rw[ed] at w1
    obtain⟨kws0,hd0,_⟩:=s1.heap.dit ed hp
    refine⟨p,rfl,.inr ⟨kws0,.inl hd0⟩,?_⟩
    refine tM.use s1 (w1.ext e1).bind fun d2 h2 v2 H2 α2 e2 s2 r2 w2=>tM.use s2 (w2.ext e2).bind fun d3 h3 v3 H3 α3 e3 s3 r3 w3=>?_
    unfold qZ at w3
    cases ek:lS d2 with
    | none=>rw[ek] at w3;exact w3.elim
    | some k=>
     rw[ek] at w3
     simp only at w3
     cases ed3:cG h3 n with
     | none=>rw[ed3] at w3;exact w3.elim
     | some kvs=>
      rw[ed3] at w3
      have hp3:=(e2.trans e3).toEx0.get hp
      obtain⟨kws,hd,rs⟩:=s3.heap.dit ed3 hp3
      obtain⟨b',rfl,eb⟩:=rA (r2.ext e3) ek
      refine⟨i8 kws k,rM.t hd eb,?_⟩
      have pp:=aB.ext (e1.trans (e2.trans e3)) (show aB X.K g α H Q _ h3 from w3)
      rcases rs.val k with⟨ev,ew⟩ | ⟨d,v,ev,ew,rv⟩
      ·rw[ev] at pp;rw[ew];exact aB.now pp s3.heap r3
      ·rw[ev] at pp;rw[ew];exact aB.now pp s3.heap rv
  | _=>exact w1.elim
end
end L2.FE
namespace L2
open PySem PySem.Spec PyProof.Rows
def I_ {X:Cx}{pins:List (Addr × Obj)}{σ:St}{H:Hp}{s:NM}{a b:Addr}{k:List Key}{v:V}{r:NI}{A:Oa}{E:NI->NM->Prop}{Q:Unit->NM->Prop} (hu:A.units<cLine) (I:Inv X pins σ H s) (e:H a=some (.dT [])) (eb:H b=some (.tup (k.map kV))) (rv:RelV v r) (h:∀s',Inv X pins σ (upd H a (.dT [(k,v)])) s'->Q () s') :
  wpAny (model X.prog X.w) A (dictSet a (.ref b) r) Q E s:=by
 obtain⟨z,hd,xs,rel,dd⟩:=Ga I.hok e
 cases rel
 refine wpAny_dictSet_heap (hsz:=OI _) hu (mL I.hok eb) dd fun h' dd' hs=>h _ ?_
 obtain⟨q,es,ep,hq,h2,h3,h4,_,h5⟩:=dd'
 refine qx I (by rw[e];exact P1) hs ⟨q,hq⟩ ⟨by simp[OY],hd,[(k,b,r)],.cons ⟨rfl,?_,rv⟩ .nil,q,es,ep,hq,h2,h3,h4,h5⟩
 rw[aw (F8 eb e (fun z=>nomatch z))]
 exact eb
noncomputable def Gi (tk tv:TE):TE:=fun σ H Q=>∀p,H p=none->tk σ (upd H p (.dT [])) fun x H1=>tv σ H1 fun y H2=>∃b k,x=.ref b/\H2 b=some (.tup (k.map kV))/\H2 p=some (.dT [])/\Q (.ref p) (upd H2 p (.dT [(k,y)]))
def C6 {X:Cx}{ek ev:Expr}{pos:Pos}{tk tv:TE} (hu:X.A.units<cLine) (hk:PE X ek tk) (hv:PE X ev tv):PE X (.Dict [some ek] [ev] pos) (Gi tk tv):=by
 intro pins s σ H Q I q
 have hn:=I.hok.fresh (NK s.heap.objs.size)
 have I1:=I.laid (h':=s.heap.push { cls:=.type "dict", data:=.dict #[] }) (t':=s.toks) (fun _ _ q=>NF _ q) (NK _) (uR s.heap I.big)
 rw[arm_eval_Dict,zip_pairTrees [some ek] [ev] X.env pos rfl rfl,dictDisplay_pairs (pairTrees [some ek] [ev] X.env pos) (by simp[pairTrees]) (by simp[pairTrees])]
 refine gV (OV (gV ?_))
 refine gV (wpAny_alloc (gV (N9 ?_)))
 refine gV (pairTrees_cons_walk (thn (hk pins _ σ _ _ I1 (q _ hn)) fun u s1 ⟨x,H1,J1,rx,q1⟩=>thn (hv pins s1 σ H1 _ J1 q1) fun w2 s2 ⟨y,H2,J2,ry,b,k,ex,eb,ep,q2⟩=>pairTrees_nil_walk ?_))
 subst ex
 cases rx
 refine N9 ?_
 refine gV (gV (gV (I_ hu J2 ep eb ry fun s3 J3=>?_)))
 repeat (refine NG ?_)
 exact⟨.ref s.heap.objs.size,_,J3,rfl,q2⟩
end L2
namespace L2.FE
open PySem PySem.Spec PyProof.Rows
def un0 {A:Oa} (h:A.units+64<cLine):A.units<cLine:=by omega
noncomputable def rX (mk mv:ME):ME:=fun env h=>(mk env (h++[.dit []])).bind fun i h1=>(mv env h1).bind fun v h2=>match lS i,cG h2 h.length with
 | some k,some []=>.ok (.ref h.length) (h2.set h.length (.dit [(k,v)]))
 | _,_=>.bad
def C_ {X:Cx}{g:GG}{ε:EE}{ek ev:Expr}{pos:Pos}{mk mv:ME} (hu:X.A.units<cLine) (hk:PE X ek (tM X.K g ε mk)) (hv:PE X ev (tM X.K g ε mv)):PE X (.Dict [some ek] [ev] pos) (tM X.K g ε (rX mk mv)):=
 PE.imp (C6 hu hk hv) fun σ H Q ⟨α,env,h,s,w⟩ p hp=>by
  have x:=Ext.push (K:=X.K) (α:=α) (o:=.dT []) hp
  have hr:aK X.K g (α++[p]) (upd H p (.dT [])) (h++[.dit []]):=s.heap.push hp ⟨[],aL,.nil⟩
  have s0:=s.ext x hr
  have ap:(α++[p])[h.length]?=some p:=by rw[<- s.heap.len];simp
  refine tM.use s0 (w.ext x).bind fun d1 h1 v1 H1 α1 e1 s1 r1 w1=>tM.use s1 (w1.ext e1).bind fun d2 h2 v2 H2 α2 e2 s2 r2 w2=>?_
  cases ek:lS d1 with
  | none=>rw[ek] at w2;exact w2.elim
  | some k=>
   cases ed:cG h2 h.length with
   | none=>rw[ek,ed] at w2;exact w2.elim
   | some kvs=>
    cases kvs with
    | cons _ _=>rw[ek,ed] at w2;exact w2.elim
    | nil=>
     rw[ek,ed] at w2
     have ap2:=(e1.trans e2).toEx0.get ap
     obtain⟨kws,hd,rs⟩:=s2.heap.dit ed ap2
     cases rs
     obtain⟨b',rfl,eb⟩:=rA (r1.ext e2) ek
     refine⟨b',k,rfl,eb,hd,?_⟩
     have xw:=Ext.write (o:=.dT [(k,v2)]) s2.heap ap2
     have xx:=x.trans (e1.trans e2)
     exact(show aB X.K g α H Q _ _ from w2) _ _ α2 (xx.trans xw) (s2.heap.write ap2 ⟨_,aL,.cons ⟨rfl,r2.ext xw⟩ .nil⟩) (.ref ap2)
end L2.FE
namespace L2.SM
open PySem PySem.W PyProof.Rows
noncomputable def qz:Bool->OC->Array OC->Nat->Nat->Nat->StateT N3 Sem (Option Nat):=sortPriv% Ow.gallop
noncomputable def A_:Array OC->Array OC->StateT N3 Sem (Array OC):=sortPriv% Ow.mergeLo
noncomputable def BY:Array OC->Array OC->StateT N3 Sem (Array OC):=sortPriv% Ow.mergeHi
section
variable {prog:NT}{w:Oe}{A:Oa}{E:NI->NM->Prop}{s:NM}
def Gv (prog:NT) (w:Oe) (A:Oa) (E:NI->NM->Prop) (s:NM){α:Type} (m:StateT N3 Sem α) (st:N3) (Q:α->N3->Prop):Prop:=
 kasC (model prog w) A E m (fun a st' s'=>s'=s/\Q a st') st s
theorem Gv.pure {Q:α->N3->Prop}{st:N3} (h:Q a st):Gv prog w A E s (Pure.pure a:StateT N3 Sem α) st Q:=kasC_pure ⟨rfl,h⟩
def Gv.bind {f:α->StateT N3 Sem β}{st:N3} (h:Gv prog w A E s m st fun a st'=>Gv prog w A E s (f a) st' Q):Gv prog w A E s (m >>= f) st Q:=by
 refine kasC_bind (N6 h (fun r s' h'=>?_) fun _ _ e=>e)
 obtain⟨e,h'⟩:=h'
 subst e
 exact h'
def Gv.mono {st:N3} (h:Gv prog w A E s m st Q) (q:∀a st',Q a st'->Q' a st'):Gv prog w A E s m st Q':=N6 h (fun r s' h'=>⟨h'.1,q _ _ h'.2⟩) fun _ _ e=>e
theorem Gv.get {st:N3} (h:Q st st):Gv prog w A E s (MonadState.get:StateT N3 Sem N3) st Q:=kasC_get ⟨rfl,h⟩
theorem Gv.set {st st':N3} (h:Q ⟨⟩ st'):Gv prog w A E s (MonadState.set st':StateT N3 Sem PUnit) st Q:=by
 exact NG ⟨rfl,h⟩
theorem Gv.modify {st:N3} (h:Q ⟨⟩ (f st)):Gv prog w A E s (_root_.modify f:StateT N3 Sem PUnit) st Q:=kasC_modify ⟨rfl,h⟩
def Gv.lift {Q:α->N3->Prop}{st:N3} (h:wpAny (model prog w) A m (fun a s'=>s'=s/\Q a st) E s):Gv prog w A E s (liftM m:StateT N3 Sem α) st Q:=kasC_lift h
theorem Gv.rule {id:String}{st:N3} (h:Q () st):Gv prog w A E s (liftM (PySem.rule id):StateT N3 Sem Unit) st Q:=Gv.lift (Tf ⟨rfl,h⟩)
theorem yk {β:Type}{f:Nat->β->StateT N3 Sem (ForInStep β)} (I:Nat->β->N3->Prop) (D:β->N3->Prop)
  (step:∀x n b st,I (n+1) b st->Gv prog w A E s (f x b) st fun r st'=>match r with | .done b'=>D b' st' | .yield b'=>I n b' st')
  (fin:∀b st,I 0 b st->D b st):∀(l:List Nat) (b:β) (st:N3),I l.length b st->Gv prog w A E s (forIn l b f) st D
 | [],b,st,h=>kasC_nil ⟨rfl,fin b st h⟩
 | x::l,b,st,h=>by
  have ih:=yk I D step fin l
  refine kasC_cons (N6 (step x l.length b st h) (fun r s' h'=>?_) fun _ _ e=>e)
  obtain⟨e,h'⟩:=h'
  subst e
  revert h'
  cases r.1 with
  | done b'=>simp
  | yield b'=>intro h';exact ih b' r.2 h'
def Gv.range {st:N3} (I:Nat->β->N3->Prop) (h0:I (b - a) c st)
  (step:∀x n b st,I (n+1) b st->Gv prog w A E s (f x b) st fun r st'=>match r with | .done b'=>Q b' st' | .yield b'=>I n b' st')
  (fin:∀b st,I 0 b st->Q b st):Gv prog w A E s (forIn [a:b] c f) st Q:=
 kasC_range (yk I Q step fin _ _ _ (by simp_all))
def Gv.elem {st:N3} (e:arr[i]?=some x) (h:Q x st):Gv prog w A E s (elem' arr i) st Q:=by
 rw[elem'_eq,e];exact Gv.pure h
def Gv.lt {st:N3} (hc:∀C:Bool->NM->Prop,C c s->wpAny (model prog w) A (keyLt' (kindOf st) x.1 y.1) C (fun _ _=>False) s) (h:Q (some c) st):Gv prog w A E s (lt' x y) st Q:=by
 refine Gv.bind (Gv.get ?_)
 refine Gv.bind (Gv.lift (Ql (N6 (hc (fun c' s'=>c'=c/\s'=s) ⟨rfl,rfl⟩) (fun c' s' hc'=>?_) fun _ _ hF=>hF.elim)))
 obtain⟨rfl,rfl⟩:=hc'
 exact⟨rfl,Gv.pure h⟩
end
section
variable {prog:NT}{w:Oe}{A:Oa}{E:NI->NM->Prop}{s:NM}{κ:Rk}{P:OC->Prop}{kk:OC->Int}
def Cmp (prog:NT) (w:Oe) (A:Oa) (s:NM) (κ:Rk) (P:OC->Prop) (kk:OC->Int):Prop:=∀x y,P x->P y->∀C:Bool->NM->Prop,C (decide (kk x<kk y)) s->wpAny (model prog w) A (keyLt' κ x.1 y.1) C (fun _ _=>False) s
def Gv.ltC {st:N3} (c:Cmp prog w A s κ P kk) (hx:P x) (hy:P y) (hk:kindOf st=κ) (h:Q (some (decide (kk x<kk y))) st):Gv prog w A E s (lt' x y) st Q:=by
 subst hk
 exact Gv.lt (c x y hx hy) h
noncomputable def kAt (kk:OC->Int) (a:Array OC) (i:Nat):Int:=((a[i]?).map kk).getD 0
def A7 (e:a[i]?=some x):kAt kk a i=kk x:=by unfold kAt;grind
noncomputable def bey (kk:OC->Int) (left:Bool) (key:OC) (arr:Array OC) (base i:Nat):Bool:=if left then decide (kAt kk arr (base+i)<kk key) else !decide (kk key<kAt kk arr (base+i))
def G7 {st:N3} (c:Cmp prog w A s κ P kk) (ha:∀x∈arr,P x) (hy:P key) (hk:kindOf st=κ) (hi:base+i<arr.size)
  (h:Q (some (bey kk left key arr base i)) st):Gv prog w A E s (do
   let x ← elem' arr (base+i)
   if left=true then lt' x key else do
    let r ← lt' key x
    pure (r.map (!·))) st Q:=by
 have e:arr[base+i]?=some arr[base+i]:=by simp[hi]
 have hp:=ha _ (Oj hi)
 have hv:=A7 (kk:=kk) e
 unfold bey at h
 rw[hv] at h
 refine Gv.bind (Gv.elem e ?_)
 cases left with
 | true=>exact Gv.ltC c hp hy hk h
 | false=>exact Gv.bind (Gv.ltC c hy hp hk (Gv.pure h))
def qt {st:N3} (c:Cmp prog w A s κ P kk) (ha:∀x∈arr,P x) (hy:P key) (hk:kindOf st=κ) (hn:base+n<=arr.size) (hh:hint<n)
  (mo:∀i j,i<=j->j<n->bey kk left key arr base j=true->bey kk left key arr base i=true)
  (h:∀k,k<=n->(∀i,i<k->bey kk left key arr base i=true)->(∀i,k<=i->i<n->bey kk left key arr base i=false)->Q (some k) st):Gv prog w A E s (qz left key arr base n hint) st Q:=by
 have B:∀{i:Nat} {Q:Option Bool->N3->Prop},i<n->Q (some (bey kk left key arr base i)) st->Gv prog w A E s (do
   let x ← elem' arr (base+i)
   if left=true then lt' x key else do
    let r ← lt' key x
    pure (r.map (!·))) st Q:=fun{i Q} hi h=>G7 c ha hy hk (by omega) h
 have mo':∀i j,i<=j->j<n->bey kk left key arr base i=false->bey kk left key arr base j=false:=fun i j hij hj e=>by
  grind
 generalize bey kk left key arr base=b at *
 -- the last loop
 have L3:∀lo hi,lo<=hi->hi<=n->(∀i,i<lo->b i=true)->(∀i,hi<=i->i<n->b i=false)->∀{f:Nat->Option (Option Nat) × Nat × Nat->StateT N3 Sem (ForInStep (Option (Option Nat) × Nat × Nat))} {R:Option (Option Nat) × Nat × Nat->N3->Prop},
   (∀x lo hi R,lo ≥ hi->R (.done (none,lo,hi)) st->Gv prog w A E s (f x (none,lo,hi)) st R) →
   (∀x lo hi R,lo<hi->hi<=n->R (if b (lo+(hi - lo) / 2)=true then .yield (none,lo+(hi - lo) / 2+1,hi) else .yield (none,lo,lo+(hi - lo) / 2)) st->Gv prog w A E s (f x (none,lo,hi)) st R) →
   (∀k lo,k<=n->(∀i,i<k->b i=true)->(∀i,k<=i->i<n->b i=false)->R (none,lo,k) st) →
   Gv prog w A E s (forIn [:n] (none,lo,hi) f) st R:=by
  intro lo hi h1 h2 h3 h4 f R f1 f2 hR
  refine Gv.range (fun m z st'=>st'=st/\∃lo hi,z=(none,lo,hi)/\lo<=hi/\hi<=n/\hi - lo<=m/\(∀i,i<lo->b i=true)/\(∀i,hi<=i->i<n->b i=false)) ⟨rfl,lo,hi,rfl,h1,h2,by omega,h3,h4⟩ (fun x m z st' hz=>?_) (fun z st' hz=>?_)
  ·obtain⟨rfl,lo,hi,rfl,g1,g2,g3,g4,g5⟩:=hz
   by_cases hl:lo ≥ hi
   ·refine f1 x lo hi _ hl ?_
    have:lo=hi:=by omega
    simp_all
   ·refine f2 x lo hi _ (by omega) g2 ?_
    cases e:b (lo+(hi - lo) / 2) with
    | true=>
     rw[if_pos rfl]
     refine⟨rfl,_,_,rfl,by omega,g2,by omega,fun i hi'=>?_,g5⟩
     grind
    | false=>
     rw[if_neg (by decide)]
     refine⟨rfl,_,_,rfl,by omega,by omega,by omega,g4,fun i hi' hn'=>?_⟩
     grind
  ·obtain⟨rfl,lo,hi,rfl,g1,g2,g3,g4,g5⟩:=hz
   have:lo=hi:=by omega
   simp_all
 with_unfolding_all refine Gv.bind ?_
 refine B hh ?_
 dsimp only
 cases e0:b hint with
 | true=>
  rw[if_pos rfl]
  refine Gv.bind (Gv.mono (Q:=fun z st'=>st'=st/\∃la ofs,z=(none,la,ofs)/\la<ofs/\hint+la<n/\b (hint+la)=true/\(n - hint<=ofs\/(ofs<n - hint/\b (hint+ofs)=false))) (Gv.range (fun m z st'=>st'=st/\∃la ofs,z=(none,la,ofs)/\la<ofs/\n+1<=ofs+m/\hint+la<n/\b (hint+la)=true) ⟨rfl,0,1,rfl,by omega,by omega,by omega,e0⟩ (fun x m z st' hz=>?_) (fun z st' hz=>?_)) (fun z st' hz=>?_))
  ·obtain⟨rfl,la,ofs,rfl,g1,g2,g3,g4⟩:=hz
   dsimp only
   by_cases hl:ofs ≥ n - hint
   ·rw[if_pos hl]
    exact Gv.pure ⟨rfl,la,ofs,rfl,g1,g3,g4,.inl hl⟩
   ·rw[if_neg hl]
    refine Gv.bind (B (by omega) ?_)
    dsimp only
    cases e:b (hint+ofs) with
    | true=>exact Gv.pure ⟨rfl,ofs,2*ofs+1,rfl,by omega,by omega,by omega,e⟩
    | false=>exact Gv.pure ⟨rfl,la,ofs,rfl,g1,g3,g4,.inr ⟨by omega,e⟩⟩
  ·obtain⟨rfl,la,ofs,rfl,g1,g2,g3,g4⟩:=hz
   grind
  ·obtain⟨rfl,la,ofs,rfl,g1,g3,g4,g5⟩:=hz
   dsimp only
   refine Gv.bind (L3 (hint+la+1) (hint+min ofs (n - hint)) ?_ ?_ ?_ ?_ (fun x lo hi R hl hR=>?_) (fun x lo hi R hl hn' hR=>?_) fun k lo g1 g2 g3=>Gv.pure (h k g1 g2 g3))
   ·omega
   ·omega
   ·grind
   ·grind
   ·dsimp only;rw[if_pos hl];exact Gv.pure hR
   ·dsimp only;rw[if_neg (by omega)]
    refine Gv.bind (B (by omega) ?_)
    dsimp only
    cases e:b (lo+(hi - lo) / 2) with
    | true=>rw[e,if_pos rfl] at hR;exact Gv.pure hR
    | false=>rw[e,if_neg (by decide)] at hR;exact Gv.pure hR
 | false=>
  rw[if_neg (by decide)]
  refine Gv.bind (Gv.mono (Q:=fun z st'=>st'=st/\∃la ofs,z=(none,la,ofs)/\la<ofs/\la<=hint/\b (hint - la)=false/\(hint+1<=ofs\/(ofs<hint+1/\b (hint - ofs)=true))) (Gv.range (fun m z st'=>st'=st/\∃la ofs,z=(none,la,ofs)/\la<ofs/\n+1<=ofs+m/\la<=hint/\b (hint - la)=false) ⟨rfl,0,1,rfl,by omega,by omega,by omega,e0⟩ (fun x m z st' hz=>?_) (fun z st' hz=>?_)) (fun z st' hz=>?_))
  ·obtain⟨rfl,la,ofs,rfl,g1,g2,g3,g4⟩:=hz
   dsimp only
   by_cases hl:ofs ≥ hint+1
   ·rw[if_pos hl]
    exact Gv.pure ⟨rfl,la,ofs,rfl,g1,g3,g4,.inl hl⟩
   ·rw[if_neg hl]
    refine Gv.bind (B (by omega) ?_)
    dsimp only
    cases e:b (hint - ofs) with
    | true=>exact Gv.pure ⟨rfl,la,ofs,rfl,g1,g3,g4,.inr ⟨by omega,e⟩⟩
    | false=>exact Gv.pure ⟨rfl,ofs,2*ofs+1,rfl,by omega,by omega,by omega,e⟩
  ·obtain⟨rfl,la,ofs,rfl,g1,g2,g3,g4⟩:=hz
   grind
  ·obtain⟨rfl,la,ofs,rfl,g1,g3,g4,g5⟩:=hz
   dsimp only
   refine Gv.bind (L3 (hint+1 - min ofs (hint+1)) (hint - la) ?_ ?_ ?_ ?_ (fun x lo hi R hl hR=>?_) (fun x lo hi R hl hn' hR=>?_) fun k lo g1 g2 g3=>Gv.pure (h k g1 g2 g3))
   ·omega
   ·omega
   ·grind
   ·grind
   ·dsimp only;rw[if_pos hl];exact Gv.pure hR
   ·dsimp only;rw[if_neg (by omega)]
    refine Gv.bind (B (by omega) ?_)
    dsimp only
    cases e:b (lo+(hi - lo) / 2) with
    | true=>rw[e,if_pos rfl] at hR;exact Gv.pure hR
    | false=>rw[e,if_neg (by decide)] at hR;exact Gv.pure hR
end
section
variable {kk:OC->Int}{a b out:Array OC}{ia ib:Nat}
def Srt (kk:OC->Int) (l:List OC):Prop:=l.Pairwise fun x y=>kk x<kk y
structure Mg (kk) (a b out:Array OC) (ia ib):Prop where
 perm:out.toList.Perm (a.toList.take ia++b.toList.take ib)
 srt:Srt kk out.toList
 la:∀x∈out.toList,∀y∈a.toList.drop ia,kk x<kk y
 lb:∀x∈out.toList,∀y∈b.toList.drop ib,kk x<kk y
def Mg.symm (m:Mg kk a b out ia ib):Mg kk b a out ib ia:=⟨m.perm.trans List.perm_append_comm,m.srt,m.lb,m.la⟩
def Mg.zero:Mg kk a b #[] 0 0:=⟨by simp,Rw,fun x hx=>by grind,fun x hx=>by grind⟩
def BV {l:List OC}{h:j<l.length} (hij:i<=j):l[j]∈l.drop i:=by
 have e:l[j]=(l.drop i)[j - i]'(by grind):=by simp_all
 grind
def t4 (s:Srt kk l) (h):∀y∈l.drop (j+1),kk l[j]<kk y:=by
 have e:=Ot h
 have s2:Srt kk (l.drop j):=SK.sublist (List.drop_sublist _ _) s
 rw[e] at s2
 exact fun y hy=>(Oi.mp s2).1 y hy
def Mg.iE (m:Mg kk a b out ia ib) (sb:Srt kk b.toList) (hi) (hd:∀y∈a.toList.drop ia,kk b[ib]<kk y):Mg kk a b (out.push b[ib]) ia (ib+1):=by
 have hl:ib<b.toList.length:=by omega
 have eb:b.toList[ib]=b[ib]:=by simp
 have bm:b[ib]∈b.toList.drop ib:=by rw[<- eb];exact BV (NK _)
 have es:(out.push b[ib]).toList=out.toList++[b[ib]]:=by simp
 refine⟨?_,?_,?_,?_⟩
 ·rw[es,List.take_succ_eq_append_getElem hl,<- OX]
  exact m.perm.append_right _
 ·rw[es]
  exact Od.mpr ⟨m.srt,Pg _ _,fun x hx y hy=>by rw[N_] at hy;subst hy;exact m.lb x hx _ bm⟩
 ·intro x hx y hy
  rw[es] at hx
  rcases Ou.mp hx with hx | hx
  ·exact m.la x hx y hy
  simp_all
 ·intro x hx y hy
  rw[es] at hx
  rcases Ou.mp hx with hx | hx
  ·exact m.lb x hx y (by rw[<- QT] at hy;grind)
  ·rw[N_] at hx;subst hx
   have:=t4 sb hl y hy
   simp_all
def Mg.kW (m:Mg kk a b out ia ib) (sa:Srt kk a.toList) (hi) (hd:∀y∈b.toList.drop ib,kk a[ia]<kk y):Mg kk a b (out.push a[ia]) (ia+1) ib:=(m.symm.iE sa hi hd).symm
theorem Mg.eG (m:Mg kk a b out ia ib) (sb:Srt kk b.toList):∀(k:Nat),ib+k<=b.size->(∀j,(hj:j<b.size)->ib<=j->j<ib+k->∀y∈a.toList.drop ia,kk b[j]<kk y)->Mg kk a b (out++b.extract ib (ib+k)) ia (ib+k)
 | 0,_,_=>by
  have e:b.extract ib (ib+0) = #[]:=by grind
  grind
 | k+1,hk,hd=>by
  have ih:=Mg.eG m sb k (by omega) (fun j hj h1 h2=>hd j hj h1 (by omega))
  have e:out++b.extract ib (ib+(k+1))=(out++b.extract ib (ib+k)).push b[ib+k]:=by
   grind
  rw[e]
  exact ih.iE sb (by omega) (hd (ib+k) (by omega) (by omega) (by omega))
def Mg.j9 (m:Mg kk a b out ia ib) (sa:Srt kk a.toList) (k) (hk:ia+k<=a.size) (hd:∀j,(hj:j<a.size)->ia<=j->j<ia+k->∀y∈b.toList.drop ib,kk a[j]<kk y):Mg kk a b (out++a.extract ia (ia+k)) (ia+k) ib:=(m.symm.eG sa k hk hd).symm
def fF (kk:OC->Int) (a b r:Array OC):Prop:=r.toList.Perm (a.toList++b.toList)/\Srt kk r.toList
def Mg.fin (m:Mg kk a b out a.size b.size):fF kk a b out:=⟨by have:=m.perm;rwa [Pl (by simp),Pl (by simp)] at this,m.srt⟩
def Mg.lj (m:Mg kk a b out ia b.size) (sa:Srt kk a.toList) (hi:ia<=a.size):fF kk a b (out++a.extract ia a.size++b.extract b.size b.size):=by
 have e:b.extract b.size b.size = #[]:=by simp
 rw[e]
 have:=m.j9 sa (a.size - ia) (by omega) (fun j hj _ _ y hy=>by rw[Rr (by simp)] at hy;cases hy)
 rw[show ia+(a.size - ia)=a.size by omega] at this
 exact this.fin
def Mg.jO (m:Mg kk a b out a.size ib) (sb:Srt kk b.toList) (hi:ib<=b.size):fF kk a b (out++a.extract a.size a.size++b.extract ib b.size):=by
 have e:a.extract a.size a.size = #[]:=by simp
 rw[e]
 have:=m.eG sb (b.size - ib) (by omega) (fun j hj _ _ y hy=>by rw[Rr (by simp)] at hy;cases hy)
 rw[show ib+(b.size - ib)=b.size by omega] at this
 exact this.fin
def Mg.last (m:Mg kk a b out ia ib) (sa:Srt kk a.toList) (sb:Srt kk b.toList) (hi:ia+1=a.size) (hb:ib<=b.size) (hd:∀y∈b.toList,kk y<kk a[ia]):fF kk a b (out++b.extract ib b.size++a.extract ia a.size):=by
 have hla:a.toList.drop ia=[a[ia]]:=by
  have hl:ia<a.toList.length:=by grind
  rw[Ot hl]
  simp_all
 have m1:=m.eG sb (b.size - ib) (by omega) (fun j hj _ _ y hy=>by
  grind)
 rw[show ib+(b.size - ib)=b.size by omega] at m1
 have m2:=m1.j9 sa (a.size - ia) (by omega) (fun j hj _ _ y hy=>by rw[Rr (by simp)] at hy;cases hy)
 rw[show ia+(a.size - ia)=a.size by omega] at m2
 exact m2.fin
def heads (sa:Srt kk a.toList) (hi) (hv:v<kk a[ia]):∀y∈a.toList.drop ia,v<kk y:=by
 have hl:ia<a.toList.length:=by omega
 intro y hy
 rw[Ot hl] at hy
 rcases NV.mp hy with rfl | hy
 ·simp_all
 ·have:=t4 sa hl y hy
  grind
def mJ (sa:Srt kk a.toList) (hij:i<j) (hj:j<a.size):kk a[i]<kk a[j]:=by
 have:=NW.mp sa i j (by grind) (by omega) hij
 simp_all
def xj (h):kAt kk a i=kk a[i]:=A7 (by simp[h])
end
section
variable {prog:NT}{w:Oe}{A:Oa}{E:NI->NM->Prop}{s:NM}{κ:Rk}{P:OC->Prop}{kk:OC->Int}{α:Type}{st:N3}{Q:α->N3->Prop}
def aX [Decidable c]{x y:StateT N3 Sem α} (h1:c->Gv prog w A E s x st Q) (h2:¬ c->Gv prog w A E s y st Q):Gv prog w A E s (if c then x else y) st Q:=by
 grind
structure dv (st st':N3):Prop where
 kind:kindOf st'=kindOf st
 arr:arrOf st'=arrOf st
 pend:pendingOf st'=pendingOf st
 fail:failedOf st'=failedOf st
def dv.refl:dv st st:=⟨rfl,rfl,rfl,rfl⟩
theorem dv.trans (h:dv a b) (g:dv b c):dv a c:=⟨g.1.trans h.1,g.2.trans h.2,g.3.trans h.3,g.4.trans h.4⟩
end
section
variable {prog:NT}{w:Oe}{A:Oa}{E:NI->NM->Prop}{s:NM}{κ:Rk}{P:OC->Prop}{kk:OC->Int}
structure Two (P:OC->Prop) (kk) (a b:Array OC):Prop where
 pa:∀x∈a,P x
 pb:∀x∈b,P x
 sa:Srt kk a.toList
 sb:Srt kk b.toList
 dj:∀x∈a.toList,∀y∈b.toList,kk x≠kk y
def Two.ne (t:Two P kk a b) (hi:i<a.size) (hj:j<b.size):kk a[i]≠kk b[j]:=t.dj _ (by simp) _ (by simp)
def sA {st:N3} (c:Cmp prog w A s κ P kk) (pa:∀x∈a,P x) (hy:P key) (hk:kindOf st=κ) (hn:i+n<=a.size) (hh:hint<n)
  (sa:∀j m,(hm:m<a.size)->i<=j->(hj:j<m)->m<i+n->kk (a[j]'(by omega))<kk a[m]) (nk:∀j,(hj:j<a.size)->i<=j->j<i+n->kk a[j]≠kk key)
  (h:∀k,k<=n->(∀j,(hj:j<a.size)->i<=j->j<i+k->kk a[j]<kk key)->(∀j,(hj:j<a.size)->i+k<=j->j<i+n->kk key<kk a[j])->Q (some k) st):Gv prog w A E s (qz false key a i n hint) st Q:=by
 have bv:∀m,(hm:i+m<a.size)->m<n->bey kk false key a i m=decide (kk a[i+m]<kk key):=fun m hm hmn=>by
  unfold bey
  rw[xj hm]
  grind
 refine qt c pa hy hk hn hh (fun m n hmn hn' e=>?_) (fun k hk1 e1 e2=>?_)
 ·rw[bv n (by omega) (by omega),decide_eq_true_eq] at e
  rw[bv m (by omega) (by omega),decide_eq_true_eq]
  rcases Ph hmn with z | z
  ·have:=sa (i+m) (i+n) (by omega) (by omega) (by omega) (by omega);omega
  simp_all
 ·refine h k hk1 (fun j hj h1 h2=>?_) (fun j hj h1 h2=>?_)
  ·have:=e1 (j - i) (by omega)
   rw[bv (j - i) (by omega) (by omega),decide_eq_true_eq] at this
   simp_all
  ·have:=e2 (j - i) (by omega) (by omega)
   rw[bv (j - i) (by omega) (by omega),decide_eq_false_iff_not] at this
   have ne:=nk j hj (by omega) h2
   have:¬ kk a[j]<kk key:=by simpa [show i+(j - i)=j by omega] using this
   omega
def sC {st:N3} (c:Cmp prog w A s κ P kk) (pa:∀x∈a,P x) (hy:P key) (hk:kindOf st=κ) (hn:i+n<=a.size) (hh:hint<n)
  (sa:∀j m,(hm:m<a.size)->i<=j->(hj:j<m)->m<i+n->kk (a[j]'(by omega))<kk a[m])
  (h:∀k,k<=n->(∀j,(hj:j<a.size)->i<=j->j<i+k->kk a[j]<kk key)->(∀j,(hj:j<a.size)->i+k<=j->j<i+n->¬ kk a[j]<kk key)->Q (some k) st):Gv prog w A E s (qz true key a i n hint) st Q:=by
 have bv:∀m,(hm:i+m<a.size)->bey kk true key a i m=decide (kk a[i+m]<kk key):=fun m hm=>by
  unfold bey
  rw[xj hm];rfl
 refine qt c pa hy hk hn hh (fun m n hmn hn' e=>?_) (fun k hk1 e1 e2=>?_)
 ·rw[bv n (by omega),decide_eq_true_eq] at e
  rw[bv m (by omega),decide_eq_true_eq]
  rcases Ph hmn with z | z
  ·have:=sa (i+m) (i+n) (by omega) (by omega) (by omega) (by omega);omega
  simp_all
 ·refine h k hk1 (fun j hj h1 h2=>?_) (fun j hj h1 h2=>?_)
  ·have:=e1 (j - i) (by omega)
   simp_all
  ·have:=e2 (j - i) (by omega) (by omega)
   rw[bv (j - i) (by omega),decide_eq_false_iff_not] at this
   simpa [show i+(j - i)=j by omega] using this
end
section
variable {prog:NT}{w:Oe}{A:Oa}{E:NI->NM->Prop}{s:NM}{κ:Rk}{P:OC->Prop}{kk:OC->Int}
structure Mid (kk) (a b out) (ia ib):Prop where
 m:Mg kk a b out ia ib
 ha:ia+1<a.size
 hb:ib<b.size
def Gv.modS {st:N3} (hf:dv st (f st)) (h:∀st',dv st st'->Q ⟨⟩ st'):Gv prog w A E s (_root_.modify f:StateT N3 Sem PUnit) st Q:=Gv.modify (h _ hf)
def Cm {c:Prop} [Decidable c]{x y:StateT N3 Sem α}{st:N3}{Q:α->N3->Prop} (h:Gv prog w A E s x st Q/\Gv prog w A E s y st Q):Gv prog w A E s (if c then x else y) st Q:=aX (fun _=>h.1) (fun _=>h.2)
def Iy {c:Prop} [Decidable c]{x y:StateT N3 Sem α}{st:N3}{Q:α->N3->Prop} (h2:¬ c->Gv prog w A E s y st Q) (h1:c->Gv prog w A E s x st Q):Gv prog w A E s (if c then x else y) st Q:=aX h1 h2
def xQ {R:Array OC->Nat->StateT N3 Sem α}{F:Array OC->Nat->Prop}{st:N3} (use:(∀o i,F o i->Gv prog w A E s (R o i) st Q)->Gv prog w A E s x st Q) (h:∀o i,F o i->Gv prog w A E s (R o i) st Q):Gv prog w A E s x st Q:=use h
def xG {P:Nat->Prop} (h:∀g,P g) (hy:(∀g,P g)->Y) (g):P g/\Y:=⟨h g,hy h⟩
def get_some {a:Array OC} (h:i<a.size):a[i]?=some a[i]:=by simp[h]
def vq {st:N3} (c:Cmp prog w A s κ P kk) (t:Two P kk a b) (hk:kindOf st=κ) (ha:1<=a.size) (hb:1<=b.size) (h0:kk b[0]<kk a[0]) (hl:∀y∈b.toList,kk y<kk a[a.size - 1])
  (h:∀r st',fF kk a b r->dv st st'->Q r st'):Gv prog w A E s (A_ a b) st Q:=by
 have m1:Mg kk a b #[b[0]] 0 1:=by
  have:=(Mg.zero (kk:=kk) (a:=a) (b:=b)).iE t.sb (by omega) (heads t.sa (by omega) h0)
  simp_all
 have lastOk:∀{out:Array OC} {ia ib:Nat},Mg kk a b out ia ib->ia+1=a.size->ib<=b.size->fF kk a b (out++b.extract ib b.size++a.extract ia a.size):=fun{out ia ib} m e hb'=>m.last t.sa t.sb e hb' (fun y hy=>by grind)
 have lj:∀{out:Array OC} {ia ib:Nat},Mg kk a b out ia ib->ia<=a.size->ib=b.size->fF kk a b (out++a.extract ia a.size++b.extract ib b.size):=fun{out ia ib} m e hb'=>by subst hb';exact m.lj t.sa e
 with_unfolding_all refine Gv.bind (Gv.rule ?_)
 dsimp only
 refine Gv.bind (Gv.elem (get_some (by omega)) ?_)
 refine aX (fun e=>Gv.pure (h _ _ (lj m1 (by omega) (by simp_all)) dv.refl)) (fun e1=>?_)
 refine aX (fun e=>Gv.pure (h _ _ (lastOk m1 (by simp_all) (by omega)) dv.refl)) (fun e2=>?_)
 have z1:1<b.size:=by grind
 have z2:1<a.size:=by grind
 refine Gv.bind (Gv.get ?_)
 refine Gv.bind (Gv.mono (Q:=fun z st'=>dv st st'/\∃r,z.1=some r/\fF kk a b r) (Gv.range (fun m z st'=>dv st st'/\∃out ia ib mg,z=(none,out,ia,ib,mg)/\Mid kk a b out ia ib/\a.size+b.size<ia+ib+m) ⟨dv.refl,_,_,_,_,rfl,⟨m1,by omega,by omega⟩,by omega⟩ (fun x m z st' hz=>?_) (fun z st' hz=>?_)) (fun z st' hz=>?_))
 ·obtain⟨sm,out,ia,ib,mg,rfl,md,pr⟩:=hz
  have hk':kindOf st'=κ:=sm.kind.trans hk
  dsimp only
  refine Gv.bind (Gv.mono (Q:=fun z st''=>dv st st''/\((∃r o i j p q,z=(some r,o,i,j,p,q)/\fF kk a b r)\/∃o i j p q,z=(none,o,i,j,p,q)/\Mid kk a b o i j/\ia+ib<i+j)) (Gv.range (fun m' z st''=>dv st st''/\∃o i j p q,z=(none,o,i,j,p,q)/\Mid kk a b o i j/\ia+ib<=i+j/\ia+ib+(a.size+b.size)<=i+j+m') ⟨sm,_,_,_,_,_,rfl,md,by omega,by omega⟩ (fun x m' z st'' hz=>?_) (fun z st'' hz=>?_)) (fun z st'' hz=>?_))
  ·obtain⟨sm2,o,i,j,p,q,rfl,md2,pr0,pr2⟩:=hz
   clear pr z1 z2 e1 e2 m1 h0 hl ha hb
   have hk2:kindOf st''=κ:=sm2.kind.trans hk
   have ha2:=md2.ha
   have hi:i<a.size:=by omega
   have hj:=md2.hb
   dsimp only
   refine Gv.bind (Gv.elem (get_some hj) ?_)
   refine Gv.bind (Gv.elem (get_some hi) ?_)
   refine Gv.bind (Gv.ltC c (t.pb _ (Oj hj)) (t.pa _ (Oj hi)) hk2 ?_)
   dsimp only
   by_cases lt:kk b[j]<kk a[i]
   ·rw[decide_eq_true lt,if_pos rfl]
    have m3:=md2.m.iE t.sb hj (heads t.sa hi lt)
    refine Gv.bind (Gv.elem (get_some hj) ?_)
    refine aX (fun e=>Gv.pure ⟨sm2,.inl ⟨_,_,_,_,_,_,rfl,lj m3 (by omega) (by simp_all)⟩⟩) (fun e=>?_)
    have e':¬ j+1=b.size:=by simp_all
    exact aX (fun _=>Gv.pure ⟨sm2,.inr ⟨_,_,_,_,_,rfl,⟨m3,by omega,by omega⟩,by omega⟩⟩) (fun _=>Gv.pure ⟨sm2,_,_,_,_,_,rfl,⟨m3,by omega,by omega⟩,by omega,by omega⟩)
   ·have gt:kk a[i]<kk b[j]:=by have:=t.ne hi hj;omega
    rw[decide_eq_false lt,if_neg (by decide)]
    have m3:=md2.m.kW t.sa hi (heads t.sb hj gt)
    refine Gv.bind (Gv.elem (get_some hi) ?_)
    refine aX (fun e=>Gv.pure ⟨sm2,.inl ⟨_,_,_,_,_,_,rfl,lastOk m3 (by simp_all) (by omega)⟩⟩) (fun e=>?_)
    have e':¬ i+1+1=a.size:=by simp_all
    exact aX (fun _=>Gv.pure ⟨sm2,.inr ⟨_,_,_,_,_,rfl,⟨m3,by omega,hj⟩,by omega⟩⟩) (fun _=>Gv.pure ⟨sm2,_,_,_,_,_,rfl,⟨m3,by omega,hj⟩,by omega,by omega⟩)
  ·grind
  ·obtain⟨sm2,⟨r,o,i,j,p,q,rfl,fr⟩ | ⟨o,i,j,p,q,rfl,md2,pr2⟩⟩:=hz
   ·exact Gv.pure ⟨sm2,r,rfl,fr⟩
   ·dsimp only
    refine Gv.bind (Gv.rule ?_)
    refine Gv.bind (Gv.mono (Q:=fun z st4=>dv st st4/\((∃r o i j g p q,z=(some r,o,i,j,g,p,q)/\fF kk a b r)\/∃o i j g p q,z=(none,o,i,j,g,p,q)/\Mid kk a b o i j/\ia+ib<i+j)) (Gv.range (fun m' z st4=>dv st st4/\∃o i j g p q,z=(none,o,i,j,g,p,q)/\Mid kk a b o i j/\ia+ib<i+j) ⟨sm2,_,_,_,_,_,_,rfl,md2,pr2⟩ (fun x m' z st4 hz=>?_) (fun z st4 hz=>?_)) (fun z st4 hz=>?_))
    ·obtain⟨sm4,o,i,j,g,p,q,rfl,md4,pr4⟩:=hz
     clear pr pr2 md md2 z1 z2 e1 e2 m1 h0 hl ha hb
     have ha4:=md4.ha
     have hj:=md4.hb
     have hi:i<a.size:=by omega
     dsimp only
     refine Cm ?_
     generalize g - 1=g1
     revert g1
     refine xG (fun g'=>?_) (fun f=>f g)
     ·with_unfolding_all refine Gv.bind (Gv.modS ⟨rfl,rfl,rfl,rfl⟩ (fun st3 sm3'=>?_))
      have sm3:=sm4.trans sm3'
      have hk3:kindOf st3=κ:=sm3.kind.trans hk
      refine Gv.bind (Gv.elem (get_some hj) ?_)
      refine Gv.bind (sA c t.pa (t.pb _ (Oj hj)) hk3 (show i+(a.size - i)<=a.size by omega) (by omega) (fun p q hq _ hpq _=>mJ t.sa hpq hq) (fun p hp _ _=>t.ne hp hj) (fun k hk1 e1 e2=>?_))
      dsimp only
      apply xQ (F:=fun o' I=>Mg kk a b o' I j/\i<=I/\I+1<a.size/\∃hI:I<a.size,kk b[j]<kk a[I])
      ·intro key
       refine Iy (fun k0=>?_) (fun k0=>?_)
       ·generalize ho:o=o1
        generalize hi':i=i1
        refine key o1 i1 ?_
        subst ho hi'
        exact⟨md4.m,by omega,ha4,hi,e2 i hi (by omega) (by omega)⟩
       have m3:=md4.m.j9 t.sa k (by omega) (fun p hp h1 h2=>heads t.sb hj (e1 p hp h1 h2))
       refine aX (fun e=>Gv.pure ⟨sm3,.inl ⟨_,_,_,_,_,_,_,rfl,lastOk m3 (by grind) (by omega)⟩⟩) (fun ne1=>?_)
       refine aX (fun e=>?_) (fun ne2=>?_)
       ·have e':i+k=a.size:=by grind
        have m3':=m3
        rw[e'] at m3'
        refine Gv.pure ⟨sm3,.inl ⟨_,_,_,_,_,_,_,rfl,?_⟩⟩
        rw[e']
        exact m3'.jO t.sb (by omega)
       ·have ne1':¬ i+k+1=a.size:=by grind
        have ne2':¬ i+k=a.size:=by grind
        have hI:i+k<a.size:=by omega
        have gtI:kk b[j]<kk a[i+k]:=e2 (i+k) hI (by omega) (by omega)
        exact key _ _ ⟨m3,by omega,by omega,hI,gtI⟩
      ·rintro o' I ⟨m3,iI,ha5,hI,gtI⟩
       refine Gv.bind (Gv.elem (get_some hj) ?_)
       have m4:=m3.iE t.sb hj (heads t.sa hI gtI)
       refine aX (fun e=>Gv.pure ⟨sm3,.inl ⟨_,_,_,_,_,_,_,rfl,lj m4 (by omega) (by simpa using e)⟩⟩) (fun ne3=>?_)
       have ne3':¬ j+1=b.size:=by simpa using ne3
       refine Gv.bind (Gv.elem (get_some hI) ?_)
       refine Gv.bind (sC c t.pb (t.pa _ (Oj hI)) hk3 (show j+1+(b.size - (j+1))<=b.size by omega) (by omega) (fun p q hq _ hpq _=>mJ t.sb hpq hq) (fun k1 hk1 f1 f2=>?_))
       dsimp only
       by_cases k10:k1 > 0
       ·rw[if_pos k10]
        have m5:=m4.eG t.sb k1 (by omega) (fun q hq h1 h2=>heads t.sa hI (f1 q hq h1 h2))
        refine aX (fun e=>Gv.pure ⟨sm3,.inl ⟨_,_,_,_,_,_,_,rfl,lj m5 (by omega) (by simpa using e)⟩⟩) (fun ne4=>?_)
        have ne4':¬ j+1+k1=b.size:=by simpa using ne4
        have hJ:j+1+k1<b.size:=by omega
        have ltJ:kk a[I]<kk b[j+1+k1]:=by have:=f2 _ hJ (by omega) (by omega);have:=t.ne hI hJ;omega
        refine Gv.bind (Gv.elem (get_some hI) ?_)
        have m6:=m5.kW t.sa hI (heads t.sb hJ ltJ)
        refine aX (fun e=>Gv.pure ⟨sm3,.inl ⟨_,_,_,_,_,_,_,rfl,lastOk m6 (by simpa using e) (by omega)⟩⟩) (fun ne5=>?_)
        have ne5':¬ I+1+1=a.size:=by simpa using ne5
        exact aX (fun _=>Gv.pure ⟨sm3,.inr ⟨_,_,_,_,_,_,rfl,⟨m6,by omega,hJ⟩,by omega⟩⟩) (fun _=>Gv.pure ⟨sm3,_,_,_,_,_,_,rfl,⟨m6,by omega,hJ⟩,by omega⟩)
       ·rw[if_neg k10]
        have m5:=m4
        have hJ:j+1<b.size:=by omega
        have ltJ:kk a[I]<kk b[j+1]:=by have:=f2 _ hJ (by omega) (by omega);have:=t.ne hI hJ;omega
        refine Gv.bind (Gv.elem (get_some hI) ?_)
        have m6:=m5.kW t.sa hI (heads t.sb hJ ltJ)
        refine aX (fun e=>Gv.pure ⟨sm3,.inl ⟨_,_,_,_,_,_,_,rfl,lastOk m6 (by simpa using e) (by omega)⟩⟩) (fun ne5=>?_)
        have ne5':¬ I+1+1=a.size:=by simpa using ne5
        exact aX (fun _=>Gv.pure ⟨sm3,.inr ⟨_,_,_,_,_,_,rfl,⟨m6,by omega,hJ⟩,by omega⟩⟩) (fun _=>Gv.pure ⟨sm3,_,_,_,_,_,_,rfl,⟨m6,by omega,hJ⟩,by omega⟩)
    ·obtain⟨sm4,o,i,j,g,p,q,rfl,md4,pr4⟩:=hz
     exact⟨sm4,.inr ⟨_,_,_,_,_,_,rfl,md4,pr4⟩⟩
    ·obtain⟨sm4,⟨r,o,i,j,g,p,q,rfl,fr⟩ | ⟨o,i,j,g,p,q,rfl,md4,pr4⟩⟩:=hz
     ·exact Gv.pure ⟨sm4,r,rfl,fr⟩
     ·dsimp only
      with_unfolding_all refine Gv.bind (Gv.modS ⟨rfl,rfl,rfl,rfl⟩ (fun st3 sm3'=>?_))
      exact Gv.pure ⟨sm4.trans sm3',_,_,_,_,rfl,md4,by omega⟩
 ·obtain⟨sm,out,ia,ib,mg,rfl,md,pr⟩:=hz
  have:=md.ha
  have:=md.hb
  omega
 ·obtain⟨sm,r,e,fr⟩:=hz
  rw[e]
  exact Gv.pure (h r st' fr sm)
end
section
variable {kk:OC->Int}{a b out:Array OC}{na nb:Nat}
structure Mh (kk:OC->Int) (a b out:Array OC) (na nb):Prop where
 perm:out.toList.Perm (a.toList.drop na++b.toList.drop nb)
 srt:out.toList.Pairwise fun x y=>kk y<kk x
 la:∀x∈out.toList,∀y∈a.toList.take na,kk y<kk x
 lb:∀x∈out.toList,∀y∈b.toList.take nb,kk y<kk x
def Mh.symm (m:Mh kk a b out na nb):Mh kk b a out nb na:=⟨m.perm.trans List.perm_append_comm,m.srt,m.lb,m.la⟩
def Mh.zero:Mh kk a b #[] a.size b.size:=⟨by simp,Rw,fun x hx=>by grind,fun x hx=>by grind⟩
def xy {l:List OC} (h):l.take (n+1)=l.take n++[l[n]]:=List.take_succ_eq_append_getElem h
def Mh.iE (m:Mh kk a b out na (nb+1)) (sb:Srt kk b.toList) (hi) (hd:∀y∈a.toList.take na,kk y<kk b[nb]):Mh kk a b (out.push b[nb]) na nb:=by
 have hl:nb<b.toList.length:=by omega
 have eb:b.toList[nb]=b[nb]:=by simp
 have et:=xy hl
 have bm:b[nb]∈b.toList.take (nb+1):=by simp_all
 have es:(out.push b[nb]).toList=out.toList++[b[nb]]:=by simp
 refine⟨?_,?_,?_,?_⟩
 ·rw[es,Ot hl]
  refine(List.perm_append_singleton _ _).trans ?_
  refine S_.trans ?_ List.perm_middle.symm
  exact m.perm.cons _
 ·rw[es]
  exact Od.mpr ⟨m.srt,Pg _ _,fun x hx y hy=>by rw[N_] at hy;subst hy;exact m.lb x hx _ bm⟩
 ·intro x hx y hy
  rw[es] at hx
  rcases Ou.mp hx with hx | hx
  ·exact m.la x hx y hy
  simp_all
 ·intro x hx y hy
  rw[es] at hx
  rcases Ou.mp hx with hx | hx
  ·exact m.lb x hx y (by simp_all)
  ·rw[N_] at hx;subst hx
   obtain⟨i,hi',rfl⟩:=RV.mp hy
   rw[OT] at hi'
   rw[Sx]
   have:=NW.mp sb i nb (by omega) hl (by omega)
   simp_all
def Mh.kW (m:Mh kk a b out (na+1) nb) (sa:Srt kk a.toList) (hi) (hd:∀y∈b.toList.take nb,kk y<kk a[na]):Mh kk a b (out.push a[na]) na nb:=(m.symm.iE sa hi hd).symm
theorem Mh.eG (sb:Srt kk b.toList):∀(k nb:Nat){out:Array OC},Mh kk a b out na (nb+k)->nb+k<=b.size->(∀j,(hj:j<b.size)->nb<=j->j<nb+k->∀y∈a.toList.take na,kk y<kk b[j])->Mh kk a b (out++(b.extract nb (nb+k)).reverse) na nb
 | 0,nb,out,m,_,_=>by
  have e:b.extract nb (nb+0) = #[]:=by grind
  grind
 | k+1,nb,out,m,hk,hd=>by
  have ih:=Mh.eG sb k (nb+1) (by rw[show nb+1+k=nb+(k+1) by omega];exact m) (by omega) (fun j hj h1 h2=>hd j hj (by omega) (by omega))
  have e:out++(b.extract nb (nb+(k+1))).reverse=(out++(b.extract (nb+1) (nb+1+k)).reverse).push b[nb]:=by
   rw[<- Array.append_push]
   have e2:b.extract nb (nb+(k+1)) = #[b[nb]]++b.extract (nb+1) (nb+1+k):=by
    apply Array.ext
    ·simp;omega
    ·intro i h1 h2
     rw[Array.getElem_extract,Array.getElem_append]
     split
     ·rename_i hz
      have:i=0:=by simp_all
      simp_all
     ·rename_i hz
      have:1<=i:=by grind
      rw[Array.getElem_extract]
      congr 1
      grind
   simp_all
  rw[e]
  exact ih.iE sb (by omega) (hd nb (by omega) (by omega) (by omega))
def Mh.j9 (sa:Srt kk a.toList) (k na) (m:Mh kk a b out (na+k) nb) (hk:na+k<=a.size) (hd:∀j,(hj:j<a.size)->na<=j->j<na+k->∀y∈b.toList.take nb,kk y<kk a[j]):Mh kk a b (out++(a.extract na (na+k)).reverse) na nb:=(Mh.eG sa k na m.symm hk hd).symm
def Mh.fin (m:Mh kk a b out 0 0):fF kk a b out.reverse:=by
 refine⟨?_,?_⟩
 ·rw[Array.toList_reverse]
  refine(List.reverse_perm _).trans ?_
  have:=m.perm;simp_all
 ·unfold Srt;rw[Array.toList_reverse,List.pairwise_reverse];exact m.srt
def Mh.jO (m:Mh kk a b out 0 nb) (sb:Srt kk b.toList) (hi:nb<=b.size):fF kk a b (a.extract 0 0++b.extract 0 nb++out.reverse):=by
 have e:a.extract 0 0 = #[]:=by simp
 rw[e,Array.empty_append]
 have:=Mh.eG sb nb 0 (by rw[P5];exact m) (by omega) (fun j hj _ _ y hy=>by grind)
 rw[P5] at this
 have f:=this.fin
 simp_all
def Mh.lj (m:Mh kk a b out na 0) (sa:Srt kk a.toList) (hi:na<=a.size):fF kk a b (a.extract 0 na++b.extract 0 0++out.reverse):=by
 have e:b.extract 0 0 = #[]:=by simp
 rw[e]
 have:=Mh.j9 sa na 0 (by rw[P5];exact m) (by omega) (fun j hj _ _ y hy=>by grind)
 rw[P5] at this
 have f:=this.fin
 simp_all
def Mh.first (m:Mh kk a b out na 1) (sa:Srt kk a.toList) (sb:Srt kk b.toList) (hi:na<=a.size) (hb) (hd:∀y∈a.toList,kk b[0]<kk y):fF kk a b (b.extract 0 1++a.extract 0 na++out.reverse):=by
 have hb1:b.toList.take 1=[b[0]]:=by rw[xy (by omega)];simp
 have m1:=Mh.j9 sa na 0 (by rw[P5];exact m) (by omega) (fun j hj _ _ y hy=>by
  grind)
 have m2:=Mh.eG sb 1 0 (by omega) (by omega) (fun j hj _ _ y hy=>by grind)
 rw[P5] at m2
 have f:=m2.fin
 simp_all
def uw (sa:Srt kk a.toList) (hi) (hv:kk a[i]<v):∀y∈a.toList.take (i+1),kk y<v:=by
 intro y hy
 obtain⟨j,hj,rfl⟩:=RV.mp hy
 rw[OT] at hj
 rw[Sx]
 rcases RK j i with z | z
 ·have:=mJ sa z hi
  grind
 grind
end
section
variable {prog:NT}{w:Oe}{A:Oa}{E:NI->NM->Prop}{s:NM}{κ:Rk}{P:OC->Prop}{kk:OC->Int}
structure Mih (kk) (a b out) (na nb):Prop where
 m:Mh kk a b out na nb
 ha:1<=na
 hb:2<=nb
 la:na<=a.size
 lb:nb<=b.size
def Mh.yB (sb:Srt kk b.toList) (hle:k<=hi) (m:Mh kk a b out na hi) (hh:hi<=b.size) (hd:∀j,(hj:j<b.size)->k<=j->j<hi->∀y∈a.toList.take na,kk y<kk b[j]):Mh kk a b (out++(b.extract k hi).reverse) na k:=by
 obtain⟨d,rfl⟩:=Nat.exists_eq_add_of_le hle
 exact Mh.eG sb d k m hh hd
def Mh.Dq (sa:Srt kk a.toList) (hle:k<=hi) (m:Mh kk a b out hi nb) (hh:hi<=a.size) (hd:∀j,(hj:j<a.size)->k<=j->j<hi->∀y∈b.toList.take nb,kk y<kk a[j]):Mh kk a b (out++(a.extract k hi).reverse) k nb:=(Mh.yB sa hle m.symm hh hd).symm
def get_eq {a:Array OC} (h:i<a.size) (e:k=i):a[k]?=some a[i]:=by simp_all
def vS {st:N3} (c:Cmp prog w A s κ P kk) (t:Two P kk a b) (hk:kindOf st=κ) (ha:1<=a.size) (hb:1<=b.size) (h0:∀y∈a.toList,kk b[0]<kk y) (hl:kk b[b.size - 1]<kk a[a.size - 1])
  (h:∀r st',fF kk a b r->dv st st'->Q r st'):Gv prog w A E s (BY a b) st Q:=by
 obtain⟨A1,hA1⟩:∃A1,a.size=A1+1:=⟨a.size - 1,by omega⟩
 have hA:A1<a.size:=by omega
 have eA:a.size - 1=A1:=by omega
 have m1:Mh kk a b #[a[A1]] A1 b.size:=by
  have:=(Mh.zero (kk:=kk) (a:=a) (b:=b))
  have t1:=uw t.sb (i:=b.size - 1) (by omega) (show kk b[b.size - 1]<kk a[A1] by simp_all)
  rw[show b.size - 1+1=b.size by omega] at t1
  have:=Mh.kW (na:=A1) (by rw[<- hA1];omega) t.sa hA t1
  simp_all
 have firstOk:∀{out:Array OC} {na:Nat},Mh kk a b out na 1->na<=a.size->fF kk a b (b.extract 0 1++a.extract 0 na++out.reverse):=fun{out na} m e=>m.first t.sa t.sb e (by omega) h0
 have jO:∀{out:Array OC} {na nb:Nat},Mh kk a b out na nb->na=0->nb<=b.size->fF kk a b (a.extract 0 na++b.extract 0 nb++out.reverse):=fun{out na nb} m e hb'=>by subst e;exact m.jO t.sb hb'
 with_unfolding_all refine Gv.bind (Gv.rule ?_)
 dsimp only
 refine Gv.bind (Gv.elem (get_eq hA eA) ?_)
 refine aX (fun e=>?_) (fun e1=>?_)
 ·have e':a.size - 1=0:=by simp_all
  rw[eA]
  exact Gv.pure (h _ _ (jO m1 (by omega) (by omega)) dv.refl)
 refine aX (fun e=>?_) (fun e2=>?_)
 ·have e':b.size=1:=by simp_all
  rw[e'] at m1
  rw[e',eA]
  exact Gv.pure (h _ _ (firstOk m1 (by omega)) dv.refl)
 have z1:¬ a.size - 1=0:=by simp_all
 have z2:¬ b.size=1:=by simp_all
 refine Gv.bind (Gv.get ?_)
 refine Gv.bind (Gv.mono (Q:=fun z st'=>dv st st'/\∃r,z.1=some r/\fF kk a b r) (Gv.range (fun m z st'=>dv st st'/\∃na nb out mg,z=(none,na,nb,out,mg)/\Mih kk a b out na nb/\na+nb<m+1) ⟨dv.refl,a.size - 1,_,_,_,rfl,⟨by simp_all,by omega,by omega,by omega,by omega⟩,by omega⟩ (fun x m z st' hz=>?_) (fun z st' hz=>?_)) (fun z st' hz=>?_))
 ·obtain⟨sm,na,nb,out,mg,rfl,md,pr⟩:=hz
  dsimp only
  refine Gv.bind (Gv.mono (Q:=fun z st''=>dv st st''/\((∃r x y o p q,z=(some r,x,y,o,p,q)/\fF kk a b r)\/∃x y o p q,z=(none,x,y,o,p,q)/\Mih kk a b o x y/\x+y<na+nb)) (Gv.range (fun m' z st''=>dv st st''/\∃x y o p q,z=(none,x,y,o,p,q)/\Mih kk a b o x y/\x+y<=na+nb/\x+y+(a.size+b.size)<=na+nb+m') ⟨sm,_,_,_,_,_,rfl,md,by omega,by omega⟩ (fun x m' z st'' hz=>?_) (fun z st'' hz=>?_)) (fun z st'' hz=>?_))
  ·obtain⟨sm2,x2,y2,o,p,q,rfl,⟨mm,ha2,hb2,la2,lb2⟩,pr0,pr2⟩:=hz
   clear pr md z1 z2 e1 e2 m1 hl eA hA hA1
   obtain⟨i,rfl⟩:∃i,x2=i+1:=⟨x2 - 1,by omega⟩
   obtain⟨j,rfl⟩:∃j,y2=j+2:=⟨y2 - 2,by omega⟩
   have hk2:kindOf st''=κ:=sm2.kind.trans hk
   have hi:i<a.size:=by omega
   have hj:j+1<b.size:=by omega
   dsimp only
   refine Gv.bind (Gv.elem (get_eq hj (by omega)) ?_)
   refine Gv.bind (Gv.elem (get_eq hi (by omega)) ?_)
   refine Gv.bind (Gv.ltC c (t.pb _ (Oj hj)) (t.pa _ (Oj hi)) hk2 ?_)
   dsimp only
   by_cases lt:kk b[j+1]<kk a[i]
   ·rw[decide_eq_true lt,if_pos rfl]
    have m3:Mh kk a b _ i (j+2):=mm.kW t.sa hi (uw t.sb hj lt)
    refine Gv.bind (Gv.elem (get_eq hi (by omega)) ?_)
    refine aX (fun e=>Gv.pure ⟨sm2,.inl ⟨_,_,_,_,_,_,rfl,jO m3 (by simp_all) (by omega)⟩⟩) (fun e=>?_)
    have e':¬ i=0:=by simp_all
    exact aX (fun _=>Gv.pure ⟨sm2,.inr ⟨i,j+2,_,_,_,rfl,⟨m3,by omega,by omega,by omega,by omega⟩,by omega⟩⟩) (fun _=>Gv.pure ⟨sm2,i,j+2,_,_,_,rfl,⟨m3,by omega,by omega,by omega,by omega⟩,by omega,by omega⟩)
   ·have gt:kk a[i]<kk b[j+1]:=by have:=t.ne hi hj;omega
    rw[decide_eq_false lt,if_neg (by decide)]
    have m3:Mh kk a b _ (i+1) (j+1):=mm.iE t.sb hj (uw t.sa hi gt)
    refine Gv.bind (Gv.elem (get_eq hj (by omega)) ?_)
    refine aX (fun e=>?_) (fun e=>?_)
    ·have e':j=0:=by simp_all
     subst e'
     exact Gv.pure ⟨sm2,.inl ⟨_,_,_,_,_,_,rfl,firstOk m3 (by omega)⟩⟩
    have e':¬ j=0:=by simp_all
    exact aX (fun _=>Gv.pure ⟨sm2,.inr ⟨i+1,j+1,_,_,_,rfl,⟨m3,by omega,by omega,by omega,by omega⟩,by omega⟩⟩) (fun _=>Gv.pure ⟨sm2,i+1,j+1,_,_,_,rfl,⟨m3,by omega,by omega,by omega,by omega⟩,by omega,by omega⟩)
  ·grind
  ·obtain⟨sm2,⟨r,x2,y2,o,p,q,rfl,fr⟩ | ⟨x2,y2,o,p,q,rfl,md2,pr2⟩⟩:=hz
   ·exact Gv.pure ⟨sm2,r,rfl,fr⟩
   ·dsimp only
    refine Gv.bind (Gv.rule ?_)
    refine Gv.bind (Gv.mono (Q:=fun z st4=>dv st st4/\((∃r x y o g p q,z=(some r,x,y,o,g,p,q)/\fF kk a b r)\/∃x y o g p q,z=(none,x,y,o,g,p,q)/\Mih kk a b o x y/\x+y<na+nb)) (Gv.range (fun m' z st4=>dv st st4/\∃x y o g p q,z=(none,x,y,o,g,p,q)/\Mih kk a b o x y/\x+y<na+nb) ⟨sm2,_,_,_,_,_,_,rfl,md2,pr2⟩ (fun x m' z st4 hz=>?_) (fun z st4 hz=>?_)) (fun z st4 hz=>?_))
    ·obtain⟨sm4,x4,y4,o,g,p,q,rfl,⟨mm,ha4,hb4,la4,lb4⟩,pr4⟩:=hz
     clear pr pr2 md md2 z1 z2 e1 e2 m1 hl eA hA hA1
     obtain⟨i,rfl⟩:∃i,x4=i+1:=⟨x4 - 1,by omega⟩
     obtain⟨j,rfl⟩:∃j,y4=j+2:=⟨y4 - 2,by omega⟩
     have hj:j+1<b.size:=by omega
     have hi:i<a.size:=by omega
     dsimp only
     refine Cm ?_
     generalize g - 1=g1
     revert g1
     refine xG (fun g'=>?_) (fun f=>f g)
     ·with_unfolding_all refine Gv.bind (Gv.modS ⟨rfl,rfl,rfl,rfl⟩ (fun st3 sm3'=>?_))
      have sm3:=sm4.trans sm3'
      have hk3:kindOf st3=κ:=sm3.kind.trans hk
      refine Gv.bind (Gv.elem (get_eq hj (by omega)) ?_)
      refine Gv.bind (sA (n:=i+1) (hint:=i) c t.pa (t.pb _ (Oj hj)) hk3 (by omega) (by omega) (fun p q hq _ hpq _=>mJ t.sa hpq hq) (fun p hp _ _=>t.ne hp hj) (fun k hk1 e1 e2=>?_))
      dsimp only
      apply xQ (F:=fun o' k'=>∃I,∃hI:I<a.size,k'=I+1/\Mh kk a b o' (I+1) (j+2)/\I<=i/\kk a[I]<kk b[j+1])
      ·intro key
       by_cases k0:i+1 - k > 0
       ·rw[if_pos k0]
        have m3':=Mh.Dq t.sa (show k<=i+1 by omega) mm (by omega) (fun p hp h1 h2=>uw t.sb hj (e2 p hp (by omega) (by omega)))
        refine aX (fun e=>Gv.pure ⟨sm3,.inl ⟨_,_,_,_,_,_,_,rfl,jO m3' (by grind) (by omega)⟩⟩) (fun ne1=>?_)
        have ne1':¬ k=0:=by grind
        generalize o++(a.extract k (i+1)).reverse=o' at m3' ⊢
        obtain⟨I,hI⟩:∃I,k=I+1:=⟨k - 1,by omega⟩
        have z:∃I,∃hI:I<a.size,k=I+1/\Mh kk a b o' (I+1) (j+2)/\I<=i/\kk a[I]<kk b[j+1]:=⟨I,by omega,hI,by grind,by omega,e1 I (by omega) (by omega) (by omega)⟩
        revert z
        generalize k=k2
        exact key o' k2
       ·have e':k=i+1:=by omega
        subst e'
        rw[if_neg k0]
        exact key o (i+1) ⟨i,hi,rfl,mm,by omega,e1 i hi (by omega) (by omega)⟩
      ·rintro o' k' ⟨I,hI,ek,m3,iI,gtI⟩
       subst ek
       refine Gv.bind (Gv.elem (get_eq hj (by omega)) ?_)
       have m4:Mh kk a b _ (I+1) (j+1):=Mh.iE m3 t.sb hj (uw t.sa hI gtI)
       refine aX (fun e=>?_) (fun ne3=>?_)
       ·have e':j=0:=by simpa using e
        subst e'
        exact Gv.pure ⟨sm3,.inl ⟨_,_,_,_,_,_,_,rfl,firstOk m4 (by omega)⟩⟩
       have ne3':¬ j=0:=by simpa using ne3
       refine Gv.bind (Gv.elem (get_eq hI (by omega)) ?_)
       refine Gv.bind (sC (n:=j+1) (hint:=j) c t.pb (t.pa _ (Oj hI)) hk3 (by omega) (by omega) (fun p q hq _ hpq _=>mJ t.sb hpq hq) (fun k1 hk1 f1 f2=>?_))
       dsimp only
       refine aX (fun k10=>?_) (fun k10=>?_)
       ·skip
        have m5:=Mh.yB t.sb (show k1<=j+1 by omega) m4 (by omega) (fun q hq h1 h2=>uw t.sa hI (by have:=f2 q hq (by omega) (by omega);have:=t.ne hI hq;omega))
        refine aX (fun e=>?_) (fun ne4=>?_)
        ·have e':k1=1:=by simpa using e
         subst e'
         exact Gv.pure ⟨sm3,.inl ⟨_,_,_,_,_,_,_,rfl,firstOk m5 (by omega)⟩⟩
        refine aX (fun e=>?_) (fun ne6=>?_)
        ·have e':k1=0:=by simpa using e
         subst e'
         exact Gv.pure ⟨sm3,.inl ⟨_,_,_,_,_,_,_,rfl,m5.lj t.sa (by omega)⟩⟩
        have ne4':¬ k1=1:=by simpa using ne4
        have ne6':¬ k1=0:=by simpa using ne6
        have ltJ:∀y∈b.toList.take k1,kk y<kk a[I]:=by
         have:=uw t.sb (i:=k1 - 1) (by omega) (f1 (k1 - 1) (by omega) (by omega) (by omega))
         rwa [show k1 - 1+1=k1 by omega] at this
        refine Gv.bind (Gv.elem (get_eq hI (by omega)) ?_)
        have m6:Mh kk a b _ I k1:=Mh.kW m5 t.sa hI ltJ
        refine aX (fun e=>Gv.pure ⟨sm3,.inl ⟨_,_,_,_,_,_,_,rfl,jO m6 (by simpa using e) (by omega)⟩⟩) (fun ne5=>?_)
        have ne5':¬ I=0:=by simpa using ne5
        exact aX (fun _=>Gv.pure ⟨sm3,.inr ⟨I,k1,_,_,_,_,rfl,⟨m6,by omega,by omega,by omega,by omega⟩,by omega⟩⟩) (fun _=>Gv.pure ⟨sm3,I,k1,_,_,_,_,rfl,⟨m6,by omega,by omega,by omega,by omega⟩,by omega⟩)
       ·skip
        have e1':k1=j+1:=by omega
        have m5:=m4
        have ltJ:∀y∈b.toList.take (j+1),kk y<kk a[I]:=uw t.sb (by omega) (f1 j (by omega) (by omega) (by omega))
        refine Gv.bind (Gv.elem (get_eq hI (by omega)) ?_)
        have m6:Mh kk a b _ I (j+1):=Mh.kW m5 t.sa hI ltJ
        refine aX (fun e=>Gv.pure ⟨sm3,.inl ⟨_,_,_,_,_,_,_,rfl,jO m6 (by simpa using e) (by omega)⟩⟩) (fun ne5=>?_)
        have ne5':¬ I=0:=by simpa using ne5
        exact aX (fun _=>Gv.pure ⟨sm3,.inr ⟨I,(j+1),_,_,_,_,rfl,⟨m6,by omega,by omega,by omega,by omega⟩,by omega⟩⟩) (fun _=>Gv.pure ⟨sm3,I,(j+1),_,_,_,_,rfl,⟨m6,by omega,by omega,by omega,by omega⟩,by omega⟩)
    ·obtain⟨sm4,x4,y4,o,g,p,q,rfl,md4,pr4⟩:=hz
     exact⟨sm4,.inr ⟨_,_,_,_,_,_,rfl,md4,pr4⟩⟩
    ·obtain⟨sm4,⟨r,x4,y4,o,g,p,q,rfl,fr⟩ | ⟨x4,y4,o,g,p,q,rfl,md4,pr4⟩⟩:=hz
     ·exact Gv.pure ⟨sm4,r,rfl,fr⟩
     ·dsimp only
      with_unfolding_all refine Gv.bind (Gv.modS ⟨rfl,rfl,rfl,rfl⟩ (fun st3 sm3'=>?_))
      exact Gv.pure ⟨sm4.trans sm3',_,_,_,_,rfl,md4,by omega⟩
 ·obtain⟨sm,na,nb,out,mg,rfl,md,pr⟩:=hz
  have:=md.ha
  omega
 ·obtain⟨sm,r,e,fr⟩:=hz
  rw[e]
  exact Gv.pure (h r st' fr sm)
end
section
variable {kk:OC->Int}
noncomputable def seg (a:Array OC) (lo n:Nat):List OC:=(a.toList.drop lo).take n
def b_ {lo n:Nat} (h:lo+n<=a.size):(seg a lo n).length=n:=by unfold seg;grind
def jy {lo n i:Nat} (h) (hi):(seg a lo n)[i]'(by rw[b_ h];exact hi)=a[lo+i]:=by
 unfold seg;simp
def bP (a) (lo n k) (h:k<=n):seg a lo n=seg a lo k++seg a (lo+k) (n - k):=by
 unfold seg
 rw[<- QT]
 have:n=k+(n - k):=by omega
 grind
def jj {lo n:Nat} (h:lo+n<=a.size) (s:Srt kk (seg a lo n)){j m:Nat} (hj:lo<=j) (hjm:j<m) (hm:m<lo+n):kk (a[j]'(by omega))<kk (a[m]'(by omega)):=by
 have:=NW.mp s (j - lo) (m - lo) (by rw[b_ h];omega) (by rw[b_ h];omega) (by omega)
 rw[jy h (by omega),jy h (by omega)] at this
 grind
def cA {lo n:Nat} (h:lo+n<=a.size) (hx:x∈seg a lo n):∃j,∃hj:j<a.size,lo<=j/\j<lo+n/\a[j]=x:=by
 obtain⟨i,hi,rfl⟩:=RV.mp hx
 have hi':i<n:=by rw[b_ h] at hi;exact hi
 exact⟨lo+i,by omega,by omega,by omega,(jy h hi').symm⟩
def xF {lo n:Nat} (h:x∈seg a lo n):x∈a:=by
 have:=List.mem_of_mem_drop (List.mem_of_mem_take h)
 simp_all
def eC (a) (lo n):a.toList=a.toList.take lo++seg a lo n++a.toList.drop (lo+n):=by
 unfold seg
 rw[<- QT,OX,QB,QB]
def xB (a) (lo hi):(a.extract lo hi).toList=seg a lo (hi - lo):=by
 unfold seg;simp
theorem u0:∀(l o X Z:List OC) (a:Array OC) (k pos:Nat),a.toList=X++o++Z->o.length=l.length->X.length=pos+k->((l.zipIdx k).foldl (fun a pj=>a.setIfInBounds (pos+pj.2) pj.1) a).toList=X++l++Z
 | [],o,X,Z,a,k,pos,e,hl,_=>by
  simp_all
 | x::l,[],X,Z,a,k,pos,e,hl,_=>by grind
 | x::l,y::o,X,Z,a,k,pos,e,hl,hX=>by
  rw[List.zipIdx_cons,Qg]
  have e1:(a.setIfInBounds (pos+k) x).toList=(X++[x])++o++Z:=by
   simp_all
  have:=u0 l o (X++[x]) Z (a.setIfInBounds (pos+k) x) (k+1) pos e1 (by simp_all) (by grind)
  simp_all
end
section
variable {prog:NT}{w:Oe}{A:Oa}{E:NI->NM->Prop}{s:NM}{κ:Rk}{P:OC->Prop}{kk:OC->Int}
def Gv.Mv {st st0:N3} (h:∀st',st'=st0->Q ⟨⟩ st'):Gv prog w A E s (MonadState.set st0:StateT N3 Sem PUnit) st Q:=Gv.set (h _ rfl)
def Gv.oq {st:N3} (h:∀st',st'=f st->Q ⟨⟩ st'):Gv prog w A E s (_root_.modify f:StateT N3 Sem PUnit) st Q:=Gv.modify (h _ rfl)
def qg {a:Array OC} (nd:(a.toList.map kk).Nodup) (hi) (hj:j<a.size) (n:i≠j):kk a[i]≠kk a[j]:=fun e=>by
 have h:=NW.mp nd
 grind
def nV {a a':Array OC} (hk:k<=na) (hq:q<=nb) (hn:sa+na+nb<=a.size) (hr:r.Perm (seg a (sa+k) (na - k)++seg a (sa+na) q)) (sr:Srt kk r)
  (e:a'.toList=a.toList.take (sa+k)++r++a.toList.drop (sa+na+q))
  (s1:Srt kk (seg a sa na)) (s2:Srt kk (seg a (sa+na) nb)) (o3:∀j,(hj:j<a.size)->sa<=j->j<sa+k->∀m,(hm:m<a.size)->sa+na<=m->m<sa+na+nb->kk a[j]<kk a[m])
  (o4:∀j,(hj:j<a.size)->sa<=j->j<sa+na->∀m,(hm:m<a.size)->sa+na+q<=m->m<sa+na+nb->kk a[j]<kk a[m]) :
  a'.toList=a.toList.take sa++(seg a sa k++r++seg a (sa+na+q) (nb - q))++a.toList.drop (sa+na+nb)/\(seg a sa k++r++seg a (sa+na+q) (nb - q)).Perm (seg a sa (na+nb))/\Srt kk (seg a sa k++r++seg a (sa+na+q) (nb - q)):=by
 have e1:=bP a sa na k hk
 have e2:=bP a (sa+na) nb q hq
 refine⟨?_,?_,?_⟩
 ·rw[e,List.take_add]
  have:a.toList.drop (sa+na+q)=seg a (sa+na+q) (nb - q)++a.toList.drop (sa+na+nb):=by
   have:=(QB (nb - q) (a.toList.drop (sa+na+q))).symm
   rwa [QT,show sa+na+q+(nb - q)=sa+na+nb by omega] at this
  rw[this]
  unfold seg
  simp
 ·have e3:seg a sa (na+nb)=seg a sa na++seg a (sa+na) nb:=by
   have:=bP a sa (na+nb) na (by omega)
   simp_all
  grind
 ·have S1:=s1
  rw[e1] at S1
  have S2:=s2
  rw[e2] at S2
  unfold Srt at S1 S2
  rw[Od] at S1 S2
  refine Od.mpr ⟨Od.mpr ⟨S1.1,sr,fun x hx y hy=>?_⟩,S2.2.1,fun x hx y hy=>?_⟩
  ·rcases Ou.mp (hr.mem_iff.mp hy) with hy | hy
   ·simp_all
   ·obtain⟨j,hj,j1,j2,rfl⟩:=cA (by omega) hx
    obtain⟨m,hm,m1,m2,rfl⟩:=cA (by omega) hy
    grind
  ·obtain⟨m,hm,m1,m2,rfl⟩:=cA (by omega) hy
   rcases Ou.mp hx with hx | hx
   ·obtain⟨j,hj,j1,j2,rfl⟩:=cA (by omega) hx
    grind
   ·rcases Ou.mp (hr.mem_iff.mp hx) with hx | hx
    ·obtain⟨j,hj,j1,j2,rfl⟩:=cA (by omega) hx
     grind
    simp_all
def wz {st:N3} (c:Cmp prog w A s κ P kk) (hk:kindOf st=κ) (hf:failedOf st=none) (hp:∀x∈arrOf st,P x) (nd:((arrOf st).toList.map kk).Nodup)
  (p1:(pendingOf st)[i]?=some (sa,na,pw)) (p2:(pendingOf st)[i+1]?=some (sa+na,nb,pw2)) (h1:1<=na) (h2:1<=nb) (hn:sa+na+nb<=(arrOf st).size) (s1:Srt kk (seg (arrOf st) sa na)) (s2:Srt kk (seg (arrOf st) (sa+na) nb))
  (h:∀(st':N3) M , kindOf st'=κ->failedOf st'=none->pendingOf st'=((pendingOf st).setIfInBounds i (sa,na+nb,pw)).eraseIdxIfInBounds (i+1)->(arrOf st').toList=(arrOf st).toList.take sa++M++(arrOf st).toList.drop (sa+na+nb)->M.Perm (seg (arrOf st) sa (na+nb))->Srt kk M->Q true st'):Gv prog w A E s (mergeAt' i) st Q:=by
 obtain⟨kd,a,pd,mg,fl⟩:=st
 with_unfolding_all refine Gv.bind (Gv.get ?_)
 rw[show pd[i]?=_ from p1,show pd[i+1]?=_ from p2]
 dsimp only
 replace nd:(a.toList.map kk).Nodup:=nd
 replace hn:sa+na+nb<=a.size:=hn
 refine Gv.bind (Gv.Mv fun st1 f1=>?_)
 have k1:kindOf st1=κ:=by simp_all
 have fl1:failedOf st1=none:=by simp_all
 have a1:arrOf st1=a:=by rw[f1]
 have pd1:pendingOf st1=(pd.setIfInBounds i (sa,na+nb,pw)).eraseIdxIfInBounds (i+1):=by rw[f1]
 have hsb:sa+na<a.size:=by omega
 have hs1:sa+na<=a.size:=by omega
 have o1:∀{j m:Nat} (hm:m<a.size),sa<=j->(hjm:j<m)->m<sa+na->kk (a[j]'(by omega))<kk a[m]:=fun hm h1 h2 h3=>jj hs1 s1 h1 h2 h3
 have o2:∀{j m:Nat} (hm:m<a.size),sa+na<=j->(hjm:j<m)->m<sa+na+nb->kk (a[j]'(by omega))<kk a[m]:=fun hm h1 h2 h3=>jj hn s2 h1 h2 h3
 refine Gv.bind (Gv.elem (get_some hsb) ?_)
 refine Gv.bind (sA c hp (hp _ (Oj hsb)) k1 hs1 (by omega) (fun j m hm h1 h2 h3=>o1 hm h1 h2 h3) (fun j hj h1 h2=>qg nd hj hsb (by omega)) (fun k hk1 e1 e2=>?_))
 have O3:∀j,(hj:j<a.size)->sa<=j->j<sa+k->∀m,(hm:m<a.size)->sa+na<=m->m<sa+na+nb->kk a[j]<kk a[m]:=fun j hj h1 h2 m hm h3 h4=>by
  have x1:=e1 j hj h1 h2
  rcases Ph h3 with z | z
  ·grind
  simp_all
 dsimp only
 refine aX (fun e=>?_) (fun ne1=>?_)
 ·have e':na - k=0:=by simp_all
  have ek:k=na:=by omega
  subst ek
  have pb:=nV (a:=a) (a':=arrOf st1) (sa:=sa) (na:=k) (nb:=nb) (k:=k) (q:=nb) (r:=seg a (sa+k) nb) (NK _) (NK _) hn (by unfold seg;simp) s2 (by rw[a1];exact eC a (sa+k) nb) s1 s2 O3 (fun j hj h1 h2 m hm h3 h4=>by omega)
  exact Gv.pure (h st1 _ k1 fl1 pd1 pb.1 pb.2.1 pb.2.2)
 have ne1':¬ na - k=0:=by simp_all
 have hx:sa+na - 1<a.size:=by omega
 refine Gv.bind (Gv.elem (get_eq hx (by omega)) ?_)
 refine Gv.bind (sC c hp (hp _ (Oj hx)) k1 hn (by omega) (fun j m hm h1 h2 h3=>o2 hm h1 h2 h3) (fun q hq1 f1 f2=>?_))
 have O4:∀j,(hj:j<a.size)->sa<=j->j<sa+na->∀m,(hm:m<a.size)->sa+na+q<=m->m<sa+na+nb->kk a[j]<kk a[m]:=fun j hj h1 h2 m hm h3 h4=>by
  have x1:=f2 m hm h3 h4
  have x2:=qg nd hm hx (by omega)
  rcases Ph (show j<=sa+na - 1 by omega) with z | z
  ·have:=o1 hx h1 z (by omega);omega
  grind
 dsimp only
 refine aX (fun e=>?_) (fun ne2=>?_)
 ·have e':q=0:=by simp_all
  subst e'
  have pb:=nV (a:=a) (a':=arrOf st1) (sa:=sa) (na:=na) (nb:=nb) (k:=k) (q:=0) (r:=seg a (sa+k) (na - k)) hk1 (OI _) hn (by unfold seg;simp) (by have:=s1;rw[bP a sa na k hk1] at this;exact(Od.mp this).2.1) (by rw[a1,Nat.add_zero];have:=eC a (sa+k) (na - k);rwa [show sa+k+(na - k)=sa+na by omega] at this) s1 s2 O3 O4
  exact Gv.pure (h st1 _ k1 fl1 pd1 pb.1 pb.2.1 pb.2.2)
 have ne2':¬ q=0:=by simp_all
 -- the merge
 have xl:(a.extract (sa+k) (sa+na)).toList=seg a (sa+k) (na - k):=by rw[xB,show sa+na - (sa+k)=na - k by omega]
 have yl:(a.extract (sa+na) (sa+na+q)).toList=seg a (sa+na) q:=by rw[xB,show sa+na+q - (sa+na)=q by omega]
 have xs:(a.extract (sa+k) (sa+na)).size=na - k:=by simp;omega
 have ys:(a.extract (sa+na) (sa+na+q)).size=q:=by simp;omega
 have xg:∀j,(hj:j<na - k)->(a.extract (sa+k) (sa+na))[j]'(by omega)=a[sa+k+j]'(by omega):=fun j hj=>by simp
 have yg:∀j,(hj:j<q)->(a.extract (sa+na) (sa+na+q))[j]'(by omega)=a[sa+na+j]'(by omega):=fun j hj=>by simp
 have tw:Two P kk (a.extract (sa+k) (sa+na)) (a.extract (sa+na) (sa+na+q)):=by
  refine⟨fun x hx=>hp x ?_,fun x hx=>hp x ?_,?_,?_,?_⟩
  ·have hx':x∈(a.extract (sa+k) (sa+na)).toList:=P9.mpr hx
   rw[xl] at hx';exact xF hx'
  ·have hx':x∈(a.extract (sa+na) (sa+na+q)).toList:=P9.mpr hx
   rw[yl] at hx';exact xF hx'
  ·rw[xl];have:=s1;rw[bP a sa na k hk1] at this;exact(Od.mp this).2.1
  ·rw[yl];have:=s2;rw[bP a (sa+na) nb q hq1] at this;exact(Od.mp this).1
  ·intro x hx y hy
   rw[xl] at hx
   rw[yl] at hy
   obtain⟨j,hj,j1,j2,rfl⟩:=cA (by omega) hx
   obtain⟨m,hm,m1,m2,rfl⟩:=cA (by omega) hy
   exact qg nd hj hm (by omega)
 have fin:∀(r:Array OC) (st2:N3),fF kk (a.extract (sa+k) (sa+na)) (a.extract (sa+na) (sa+na+q)) r->dv st1 st2->∀st3:N3,kindOf st3=kindOf st2->failedOf st3=failedOf st2->pendingOf st3=pendingOf st2->arrOf st3=r.toList.zipIdx.foldl (fun a pj=>a.setIfInBounds (sa+k+pj.2) pj.1) (arrOf st2)->Q true st3:=by
  intro r st2 fr sm st3 g1 g2 g3 g4
  obtain⟨pr,sr⟩:=fr
  rw[xl,yl] at pr
  have hrl:r.toList.length=na - k+q:=by rw[pr.length_eq,OF,b_ (by omega),b_ (by omega)]
  have ea:(arrOf st3).toList=a.toList.take (sa+k)++r.toList++a.toList.drop (sa+na+q):=by
   rw[g4,sm.arr,a1]
   have e0:=eC a (sa+k) (na - k+q)
   rw[show sa+k+(na - k+q)=sa+na+q by omega] at e0
   exact u0 r.toList (seg a (sa+k) (na - k+q)) (a.toList.take (sa+k)) (a.toList.drop (sa+na+q)) a 0 (sa+k) e0 (by rw[b_ (by omega),hrl]) (by rw[OT,NX];omega)
  have pb:=nV hk1 hq1 hn pr sr ea s1 s2 O3 O4
  exact h st3 _ (g1.trans (sm.kind.trans k1)) (g2.trans (sm.fail.trans fl1)) (g3.trans (sm.pend.trans pd1)) pb.1 pb.2.1 pb.2.2
 have lo0:kk ((a.extract (sa+na) (sa+na+q))[0]'(by omega))<kk ((a.extract (sa+k) (sa+na))[0]'(by omega)):=by
  rw[xg 0 (by omega),yg 0 (by omega)]
  exact e2 (sa+k) (by omega) (by omega) (by omega)
 have allY:∀y∈(a.extract (sa+na) (sa+na+q)).toList,kk y<kk ((a.extract (sa+k) (sa+na))[(a.extract (sa+k) (sa+na)).size - 1]'(by omega)):=by
  intro y hy
  rw[yl] at hy
  obtain⟨m,hm,m1,m2,rfl⟩:=cA (by omega) hy
  have:(a.extract (sa+k) (sa+na))[(a.extract (sa+k) (sa+na)).size - 1]'(by omega)=a[sa+na - 1]:=by
   rw[xg _ (by omega)]
   congr 1
   omega
  grind
 refine aX (fun _=>?_) (fun _=>?_)
 ·refine Gv.bind (vq c tw k1 (by omega) (by omega) lo0 allY (fun r st2 fr sm=>?_))
  refine Gv.bind (Gv.oq fun st3 g=>?_)
  refine Gv.bind (Gv.get ?_)
  have g2:failedOf st3=failedOf st2:=by rw[g]
  have g3:(failedOf st3).isNone=true:=by rw[g2.trans (sm.fail.trans fl1)];rfl
  refine Gv.pure ?_
  grind
 ·refine Gv.bind (vS c tw k1 (by omega) (by omega) (fun y hy=>?_) (allY _ (P9.mpr (Oj _))) (fun r st2 fr sm=>?_))
  ·rw[xl] at hy
   obtain⟨m,hm,m1,m2,rfl⟩:=cA (by omega) hy
   rw[yg 0 (by omega)]
   exact e2 m hm (by omega) (by omega)
  refine Gv.bind (Gv.oq fun st3 g=>?_)
  refine Gv.bind (Gv.get ?_)
  have g2:failedOf st3=failedOf st2:=by rw[g]
  have g3:(failedOf st3).isNone=true:=by rw[g2.trans (sm.fail.trans fl1)];rfl
  refine Gv.pure ?_
  grind
end
section
variable {kk:OC->Int}{a:Array OC}
def gR {lo n i:Nat}:(seg a lo n)[i]?=if i<n then a[lo+i]? else none:=by
 unfold seg
 grind
def sE (hij:i<=j) (hj:j<=a.size):(mirror a i j ((j - i) / 2)).toList=a.toList.take i++(seg a i (j - i)).reverse++a.toList.drop j:=by
 have hsl:(seg a i (j - i)).length=j - i:=b_ (by omega)
 apply Qi
 intro k
 rw[Oq,getElem?_mirror_all hj]
 have l1:(a.toList.take i).length=i:=by grind
 have l2:(a.toList.take i++(seg a i (j - i)).reverse).length=j:=by simp_all
 by_cases h1:k<i
 ·grind
 ·by_cases h2:k<j
  ·rw[if_pos ⟨by omega,h2⟩,Oo (by omega),N8 (by omega),List.getElem?_reverse (by omega),gR,if_pos (by omega)]
   grind
  grind
def uV (hd:dst<=src) (hs):(bubble a src (src - dst)).toList=a.toList.take dst++(a[src]::seg a dst (src - dst))++a.toList.drop (src+1):=by
 have hsl:(seg a dst (src - dst)).length=src - dst:=b_ (by omega)
 apply Qi
 intro k
 rw[Oq,getElem?_bubble hs _ (by omega),show src - (src - dst)=dst by omega]
 have l1:(a.toList.take dst).length=dst:=by grind
 have l2:(a.toList.take dst++(a[src]::seg a dst (src - dst))).length=src+1:=by grind
 by_cases h0:k<dst
 ·grind
 ·by_cases h1:k=dst
  ·simp_all
  ·by_cases h2:k<=src
   ·rw[if_neg h1,if_pos ⟨by omega,h2⟩,Oo (by omega),N8 (by omega),l1]
    obtain⟨e,he⟩:∃e,k - dst=e+1:=⟨k - dst - 1,by omega⟩
    rw[he,List.getElem?_cons_succ,gR,if_pos (by omega)]
    grind
   grind
def gE {lo n:Nat} (h):seg a lo (n+1)=seg a lo n++[a[lo+n]]:=by
 rw[bP a lo (n+1) n (by omega)]
 congr 1
 apply Qi
 intro k
 rw[gR]
 grind
def w8:Srt kk [x]:=Pg _ _
def Es {lo:Nat} (h:lo<a.size):Srt kk (seg a lo 1):=by
 have:=gE (show lo+0<a.size by omega)
 rw[this]
 have e:seg a lo 0=[]:=by rfl
 rw[e];exact w8
def DT {lo n:Nat} (s:Srt kk (seg a lo n)) (h1:1<=n) (h:lo+n<a.size) (lt:kk a[lo+n - 1]<kk a[lo+n]):Srt kk (seg a lo (n+1)):=by
 rw[gE h]
 refine Od.mpr ⟨s,w8,fun x hx y hy=>?_⟩
 rw[N_] at hy;subst hy
 obtain⟨j,hj,j1,j2,rfl⟩:=cA (by omega) hx
 rcases Ph (show j<=lo+n - 1 by omega) with z | z
 ·have:=jj (by omega) s j1 z (by omega);omega
 simp_all
def Dsc (kk:OC->Int) (l:List OC):Prop:=l.Pairwise fun x y=>kk y<kk x
def yC {lo n:Nat} (s:Dsc kk (seg a lo n)) (h1:1<=n) (h) (lt:kk a[lo+n]<kk a[lo+n - 1]):Dsc kk (seg a lo (n+1)):=by
 rw[gE h]
 refine Od.mpr ⟨s,Pg _ _,fun x hx y hy=>?_⟩
 rw[N_] at hy;subst hy
 obtain⟨j,hj,j1,j2,rfl⟩:=cA (by omega) hx
 rcases Ph (show j<=lo+n - 1 by omega) with z | z
 ·have hl:(seg a lo n).length=n:=b_ (by omega)
  have:=NW.mp s (j - lo) (n - 1) (by omega) (by omega) (by omega)
  rw[jy (by omega) (by omega),jy (by omega) (by omega)] at this
  grind
 simp_all
structure Prt (a a':Array OC) (lo n) (S):Prop where
 eq:a'.toList=a.toList.take lo++S++a.toList.drop (lo+n)
 perm:S.Perm (seg a lo n)
def Prt.all {lo n:Nat} (p:Prt a a' lo n S):a'.toList.Perm a.toList:=by
 rw[p.eq]
 conv=>rhs;rw[eC a lo n]
 exact(p.perm.append_left _).append_right _
theorem Prt.size {lo n:Nat} (p:Prt a a' lo n S):a'.size=a.size:=by
 have:=p.all.length_eq;omega
theorem Prt.P {lo n:Nat}{P:OC->Prop} (p:Prt a a' lo n S) (h:∀x∈a,P x):∀x∈a',P x:=fun x hx=>h x (by
 have:=p.all.mem_iff.mp (P9.mpr hx);simp_all)
def Prt.nd {lo n:Nat} (p:Prt a a' lo n S) (h:(a.toList.map kk).Nodup):(a'.toList.map kk).Nodup:=((p.all.map kk).nodup_iff).mpr h
theorem Prt.seg {lo n:Nat} (p:Prt a a' lo n S) (h:lo+n<=a.size):seg a' lo n=S:=by
 have hS:S.length=n:=by rw[p.perm.length_eq,b_ h]
 unfold L2.SM.seg
 rw[p.eq,OX,List.drop_append_of_le_length (by grind),Rt (by grind),QA,Qp (by omega),Pl (by omega)]
def Prt.before {lo n:Nat} (p:Prt a a' lo n S) (h:lo+n<=a.size) (hk:i+k<=lo):L2.SM.seg a' i k=L2.SM.seg a i k:=by
 apply Qi
 intro q
 rw[gR,gR]
 split
 ·rename_i hq
  rw[<- Oq,<- Oq,p.eq,OX,Oo (by grind),List.getElem?_take,if_pos (by omega)]
 ·rfl
theorem Prt.refl {lo n:Nat}:Prt a a lo n (L2.SM.seg a lo n):=⟨eC a lo n,.refl _⟩
end
section
variable {prog:NT}{w:Oe}{A:Oa}{E:NI->NM->Prop}{s:NM}{κ:Rk}{P:OC->Prop}{kk:OC->Int}
theorem tW {β:Type}{f:Nat->β->StateT N3 Sem (ForInStep β)} (I:Nat->β->N3->Prop) (D:β->N3->Prop) (hi:Nat)
  (step:∀x b st,x<hi->I x b st->Gv prog w A E s (f x b) st fun r st'=>match r with | .done b'=>D b' st' | .yield b'=>I (x+1) b' st')
  (fin:∀b st,I hi b st->D b st):∀(n lo:Nat) (b:β) (st:N3),lo+n=hi->I lo b st->Gv prog w A E s (forIn (SH lo n) b f) st D
 | 0,lo,b,st,e,h=>kasC_nil ⟨rfl,fin b st ((show lo=hi by omega) ▸ h)⟩
 | n+1,lo,b,st,e,h=>by
  have ih:=tW I D hi step fin n (lo+1)
  refine kasC_cons (N6 (step lo b st (by omega) h) (fun r s' h'=>?_) fun _ _ e=>e)
  obtain⟨e',h'⟩:=h'
  subst e'
  revert h'
  cases r.1 with
  | done b'=>simp
  | yield b'=>intro h';exact ih b' r.2 (by omega) h'
def Gv.wo {st:N3} (I:Nat->β->N3->Prop) (hab:a<=b) (h0:I a c st)
  (step:∀x z st,x<b->I x z st->Gv prog w A E s (f x z) st fun r st'=>match r with | .done b'=>Q b' st' | .yield b'=>I (x+1) b' st')
  (fin:∀z st,I b z st->Q z st):Gv prog w A E s (forIn [a:b] c f) st Q:=
 kasC_range (tW I Q b step fin (b - a) a c st (by omega) h0)
structure Ok (κ) (P:OC->Prop) (kk:OC->Int) (st:N3):Prop where
 kind:kindOf st=κ
 fail:failedOf st=none
 all:∀x∈arrOf st,P x
 nd:((arrOf st).toList.map kk).Nodup
def Gv.ltAt {st:N3} (c:Cmp prog w A s κ P kk) (o:Ok κ P kk st) (hi) (hj:j<(arrOf st).size) (h:Q (some (decide (kk (arrOf st)[i]<kk (arrOf st)[j]))) st):Gv prog w A E s (ltAt' i j) st Q:=by
 refine Gv.bind (Gv.get ?_)
 refine Gv.bind (Gv.elem (get_some hi) ?_)
 refine Gv.bind (Gv.elem (get_some hj) ?_)
 exact Gv.ltC c (o.all _ (Oj hi)) (o.all _ (Oj hj)) o.kind h
structure Arr (st st':N3) (a'):Prop where
 kind:kindOf st'=kindOf st
 fail:failedOf st'=failedOf st
 pend:pendingOf st'=pendingOf st
 arr:arrOf st'=a'
def Arr.refl {st:N3}:Arr st st (arrOf st):=⟨rfl,rfl,rfl,rfl⟩
def Arr.ok {st st':N3}{lo n:Nat} (o:Ok κ P kk st) (r:Arr st st' a') (p:Prt (arrOf st) a' lo n S):Ok κ P kk st':=⟨r.kind.trans o.kind,r.fail.trans o.fail,by rw[r.arr];exact p.P o.all,by rw[r.arr];exact p.nd o.nd⟩
def uU {lo nrem n0:Nat}{st:N3}{R:Option (Option Nat) × Nat->N3->Prop} (hn:lo+nrem<=(arrOf st).size) (nd:((arrOf st).toList.map kk).Nodup) (h1:1<=n0) (h2:n0<=nrem) (s0:Srt kk (seg (arrOf st) lo n0))
  (hf:∀x n T,1<=n->(hl:lo+n<(arrOf st).size)->T (if kk (arrOf st)[lo+n]<kk ((arrOf st)[lo+n - 1]'(by omega)) then .done (none,n) else .yield (none,n+1)) st->Gv prog w A E s (f x (none,n)) st T)
  (hR:∀n,n0<=n->n<=nrem->Srt kk (seg (arrOf st) lo n)->(n<nrem->∀hl:lo+n<(arrOf st).size,kk (arrOf st)[lo+n]<kk ((arrOf st)[lo+n - 1]'(by omega)))->R (none,n) st):Gv prog w A E s (forIn [n0:nrem] (none,n0) f) st R:=by
 refine Gv.wo (fun x z st'=>st'=st/\z=(none,x)/\n0<=x/\Srt kk (seg (arrOf st) lo x)) h2 ⟨rfl,rfl,NK _,s0⟩ (fun x z st' hx hz=>?_) (fun z st' hz=>?_)
 ·obtain⟨rfl,rfl,g1,g2⟩:=hz
  have hl:lo+x<(arrOf st').size:=by omega
  refine hf x x _ (by omega) hl ?_
  by_cases lt:kk (arrOf st')[lo+x]<kk ((arrOf st')[lo+x - 1]'(by omega))
  ·grind
  ·rw[if_neg lt]
   have ne:=qg nd hl (show lo+x - 1<(arrOf st').size by omega) (by omega)
   exact⟨rfl,rfl,by omega,DT g2 (by omega) hl (by omega)⟩
 simp_all
def sI {lo nrem:Nat}{st:N3} (c:Cmp prog w A s κ P kk) (o:Ok κ P kk st) (hn:lo+nrem<=(arrOf st).size) (h1:1<=nrem)
  (h:∀n a' st' S,1<=n->n<=nrem->Arr st st' a'->Prt (arrOf st) a' lo n S->Srt kk S->Q (some n) st'):Gv prog w A E s (countRun' lo nrem) st Q:=by
 have F:∀(st:N3),Ok κ P kk st->lo+nrem<=(arrOf st).size->∀n,1<=n->lo+n<(arrOf st).size->∀{T:Option Bool->N3->Prop},(∀(hl:lo+n<(arrOf st).size),T (some (decide (kk (arrOf st)[lo+n]<kk ((arrOf st)[lo+n - 1]'(by omega))))) st)->Gv prog w A E s (ltAt' (lo+n) (lo+n - 1)) st T:=fun st o hn n h1 hl T hT=>Gv.ltAt c o hl (by omega) (hT hl)
 with_unfolding_all refine Gv.bind ?_
 refine uU hn o.nd (NK _) h1 (Es (by omega)) (fun x n T g1 hl hT=>?_) (fun n g1 g2 g3 g4=>?_)
 ·refine Gv.bind (F st o hn n g1 hl fun hl=>?_)
  dsimp only
  by_cases lt:kk (arrOf st)[lo+n]<kk ((arrOf st)[lo+n - 1]'(by omega))
  ·rw[decide_eq_true lt];rw[if_pos lt] at hT;exact Gv.pure hT
  ·rw[decide_eq_false lt];rw[if_neg lt] at hT;exact Gv.pure hT
 refine aX (fun e=>?_) (fun e=>?_)
 ·exact Gv.pure (h n _ st _ g1 g2 Arr.refl Prt.refl g3)
 have e':¬ n=nrem:=by simp_all
 refine aX (fun e2=>?_) (fun e2=>?_)
 ·-- it rose
  refine Gv.bind (Gv.ltAt c o (show lo<(arrOf st).size by omega) (show lo+n - 1<(arrOf st).size by omega) ?_)
  have lt:kk (arrOf st)[lo]<kk (arrOf st)[lo+n - 1]:=jj (by omega) g3 (NK _) (by omega) (by omega)
  rw[decide_eq_true lt]
  dsimp only
  exact Gv.pure (h n _ st _ g1 g2 Arr.refl Prt.refl g3)
 have n1:n=1:=by omega
 subst n1
 refine Gv.bind (Gv.rule ?_)
 have d2:Dsc kk (seg (arrOf st) lo 2):=by
  have l:=g4 (by omega) (by omega)
  refine yC (n:=1) ?_ (NK _) (by omega) l
  rw[gE (n:=0) (by omega)]
  have e0:seg (arrOf st) lo 0=[]:=by rfl
  rw[e0];exact Pg _ _
 refine Gv.bind (Gv.mono (Q:=fun z st'=>st'=st/\∃m,z=(none,m,0)/\2<=m/\m<=nrem/\Dsc kk (seg (arrOf st) lo m)) (Gv.wo (fun x z st'=>st'=st/\z=(none,x,0)/\2<=x/\Dsc kk (seg (arrOf st) lo x)) (by omega) ⟨rfl,rfl,by omega,d2⟩ (fun x z st' hx hz=>?_) (fun z st' hz=>?_)) (fun z st' hz=>?_))
 ·obtain⟨rfl,rfl,q1,q2⟩:=hz
  have hl:lo+x<(arrOf st').size:=by omega
  refine Gv.bind (F st' o hn x (by omega) hl fun hl=>?_)
  dsimp only
  by_cases lt:kk (arrOf st')[lo+x]<kk ((arrOf st')[lo+x - 1]'(by omega))
  ·rw[decide_eq_true lt,if_pos rfl,if_neg (by omega)]
   exact Gv.pure ⟨rfl,rfl,by omega,yC q2 (by omega) hl lt⟩
  ·rw[decide_eq_false lt,if_neg (by decide)]
   have ne:=qg o.nd hl (show lo+x - 1<(arrOf st').size by omega) (by omega)
   have gt:kk ((arrOf st')[lo+x - 1]'(by omega))<kk (arrOf st')[lo+x]:=by omega
   refine Gv.bind (Gv.ltAt c o (show lo+x - 1<(arrOf st').size by omega) hl ?_)
   rw[decide_eq_true gt]
   dsimp only
   rw[if_pos rfl]
   exact Gv.pure ⟨rfl,x,rfl,q1,by omega,q2⟩
 ·simp_all
 ·obtain⟨rfl,m,rfl,q1,q2,q3⟩:=hz
  dsimp only
  rw[if_neg (by omega)]
  have pr:Prt (arrOf st') (mirror (arrOf st') lo (lo+m) ((lo+m - lo) / 2)) lo m (seg (arrOf st') lo m).reverse:=by
   refine⟨?_,List.reverse_perm _⟩
   have:=sE (a:=arrOf st') (show lo<=lo+m by omega) (by omega)
   simp_all
  have sr:Srt kk (seg (arrOf st') lo m).reverse:=by unfold Srt;rw[List.pairwise_reverse];exact q3
  with_unfolding_all refine Gv.bind (Gv.oq fun st2 g=>?_)
  have r2:Arr st' st2 (mirror (arrOf st') lo (lo+m) ((lo+m - lo) / 2)):=⟨by rw[g],by rw[g],by rw[g],by rw[g];rfl⟩
  clear g
  have o2:=r2.ok o pr
  have hs2:(arrOf st2).size=(arrOf st').size:=by rw[r2.arr];exact pr.size
  have sg:seg (arrOf st2) lo m=(seg (arrOf st') lo m).reverse:=by rw[r2.arr];exact pr.seg (by omega)
  refine Gv.bind ?_
  refine uU (st:=st2) (lo:=lo) (n0:=m) (by omega) o2.nd (by omega) q2 (by simp_all) (fun x n T z1 hl hT=>?_) (fun n z1 z2 z3 z4=>?_)
  ·refine Gv.bind (F st2 o2 (by omega) n z1 hl fun hl=>?_)
   dsimp only
   by_cases lt:kk (arrOf st2)[lo+n]<kk ((arrOf st2)[lo+n - 1]'(by omega))
   ·rw[decide_eq_true lt,if_pos rfl];rw[if_pos lt] at hT;exact Gv.pure hT
   ·rw[decide_eq_false lt,if_neg (by decide)];rw[if_neg lt] at hT;exact Gv.pure hT
  ·dsimp only
   refine Gv.pure (h n _ st2 (seg (arrOf st2) lo n) (by omega) z2 r2 ?_ z3)
   rw[r2.arr]
   -- the longer part
   refine⟨?_,?_⟩
   ·have e0:=eC (mirror (arrOf st') lo (lo+m) ((lo+m - lo) / 2)) lo n
    rw[e0]
    congr 1
    ·congr 1
     rw[pr.eq,OX,Qp (by grind),List.take_take,Nat.min_self]
    ·rw[pr.eq]
     have hl:(Uq lo (arrOf st').toList++(seg (arrOf st') lo m).reverse).length=lo+m:=by rw[OF,OT,NX,List.length_reverse,b_ (by omega)];omega
     rw[List.drop_append,Rt (by omega),QA,hl,QT]
     simp_all
   ·have sp1:=bP (mirror (arrOf st') lo (lo+m) ((lo+m - lo) / 2)) lo n m z1
    have sp2:=bP (arrOf st') lo n m z1
    have sg':seg (mirror (arrOf st') lo (lo+m) ((lo+m - lo) / 2)) lo m=(seg (arrOf st') lo m).reverse:=pr.seg (by omega)
    rw[sp1,sp2,sg']
    have tl:seg (mirror (arrOf st') lo (lo+m) ((lo+m - lo) / 2)) (lo+m) (n - m)=seg (arrOf st') (lo+m) (n - m):=by
     unfold seg
     congr 1
     rw[pr.eq]
     have hl:(Uq lo (arrOf st').toList++(L2.SM.seg (arrOf st') lo m).reverse).length=lo+m:=by rw[OF,OT,NX,List.length_reverse,b_ (by omega)];omega
     grind
    grind
end
section
variable {prog:NT}{w:Oe}{A:Oa}{E:NI->NM->Prop}{s:NM}{κ:Rk}{P:OC->Prop}{kk:OC->Int}
def Prt.head {i m lo:Nat} (p:Prt a a' i m S) (h1:lo<=i) (h3:i<=a.size):a'.toList.take lo=a.toList.take lo:=by
 rw[p.eq,OX,Qp (by simp_all),List.take_take,Nat.min_eq_left h1]
def Prt.tail (p:Prt a a' i m S) (h2:i+m<=hi) (h3:i+m<=a.size):a'.toList.drop hi=a.toList.drop hi:=by
 have hS:S.length=m:=by rw[p.perm.length_eq,b_ h3]
 have hl:(Uq i a.toList++S).length=i+m:=by grind
 rw[p.eq,List.drop_append,Rt (by omega),QA,QT]
 simp_all
def Prt.widen {i m lo n:Nat} (p:Prt a a' i m S) (h1:lo<=i) (h2:i+m<=lo+n) (h3:lo+n<=a.size):Prt a a' lo n (L2.SM.seg a' lo n):=by
 have tk:=p.head h1 (by omega)
 have dp:=p.tail h2 (by omega)
 refine⟨by rw[<- tk,<- dp];exact eC a' lo n,?_⟩
 have e:=p.all
 rw[eC a' lo n,eC a lo n,tk,dp,List.perm_append_right_iff,List.perm_append_left_iff] at e
 exact e
theorem Prt.trans {lo n:Nat} (p:Prt a a' lo n S) (q:Prt a' a'' lo n S') (h3:lo+n<=a.size):Prt a a'' lo n S':=by
 refine⟨?_,q.perm.trans (by rw[p.seg h3];exact p.perm)⟩
 rw[q.eq,p.head (NK _) (by omega),p.tail (NK _) h3]
def DY {lo k l:Nat} (hk) (hl:l<=k) (sr:Srt kk (seg a lo k)) (lt:∀i,(hi:lo+i<a.size)->i<l->kk a[lo+i]<kk a[lo+k]) (gt:∀i,(hi:lo+i<a.size)->l<=i->i<k->kk a[lo+k]<kk a[lo+i])
  (p:Prt a a'' (lo+l) (k - l+1) (a[lo+k]::seg a (lo+l) (k - l))):Srt kk (seg a'' lo (k+1)):=by
 have e1:=bP a'' lo (k+1) l (by omega)
 have e2:seg a'' lo l=seg a lo l:=p.before (by omega) (by omega)
 have e3:=p.seg (by omega)
 rw[e1,e2,show k+1 - l=k - l+1 by omega,e3]
 have s1:=sr
 rw[bP a lo k l hl] at s1
 have s2:=Od.mp s1
 refine Od.mpr ⟨s2.1,Oi.mpr ⟨fun y hy=>?_,s2.2.1⟩,fun x hx y hy=>?_⟩
 ·obtain⟨m,hm,m1,m2,rfl⟩:=cA (by omega) hy
  have:=gt (m - lo) (by omega) (by omega) (by omega)
  grind
 ·rcases NV.mp hy with rfl | hy
  ·obtain⟨m,hm,m1,m2,rfl⟩:=cA (by omega) hx
   have:=lt (m - lo) (by omega) (by omega)
   simp_all
  simp_all
def oP {lo n ok:Nat}{st:N3} (c:Cmp prog w A s κ P kk) (o:Ok κ P kk st) (hn:lo+n<=(arrOf st).size) (h1:1<=ok) (h2:ok<=n) (s0:Srt kk (seg (arrOf st) lo ok))
  (h:∀a' st',Arr st st' a'->Prt (arrOf st) a' lo n (seg a' lo n)->Srt kk (seg a' lo n)->Q true st'):Gv prog w A E s (binarySort' lo n ok) st Q:=by
 with_unfolding_all refine Gv.bind ?_
 refine Gv.mono (Q:=fun z st'=>z=(none,())/\∃a',Arr st st' a'/\Prt (arrOf st) a' lo n (seg a' lo n)/\Srt kk (seg a' lo n)) (Gv.wo (fun x z st'=>z=(none,())/\∃a',Arr st st' a'/\Prt (arrOf st) a' lo n (seg a' lo n)/\Srt kk (seg a' lo x)/\1<=x) (by omega) ⟨rfl,_,Arr.refl,Prt.refl,by simp_all,by omega⟩ (fun k z st1 hk hz=>?_) (fun z st1 hz=>?_)) (fun z st1 hz=>?_)
 ·obtain⟨rfl,a1,r1,p1,g1,g2⟩:=hz
  have o1:=r1.ok o p1
  have hs1:(arrOf st1).size=(arrOf st).size:=by rw[r1.arr];exact p1.size
  have ha1:=r1.arr
  have hk1:lo+k<(arrOf st1).size:=by omega
  refine Gv.bind (Gv.mono (Q:=fun z st2=>st2=st1/\∃l r,z=(none,l,r)/\l<=k/\(∀i,(hi:lo+i<(arrOf st1).size)->i<l->kk (arrOf st1)[lo+i]<kk (arrOf st1)[lo+k])/\(∀i,(hi:lo+i<(arrOf st1).size)->l<=i->i<k->kk (arrOf st1)[lo+k]<kk (arrOf st1)[lo+i])) (Gv.range (fun m z st2=>st2=st1/\∃l r,z=(none,l,r)/\l<=r/\r<=k/\r - l<=m/\(∀i,(hi:lo+i<(arrOf st1).size)->i<l->kk (arrOf st1)[lo+i]<kk (arrOf st1)[lo+k])/\(∀i,(hi:lo+i<(arrOf st1).size)->r<=i->i<k->kk (arrOf st1)[lo+k]<kk (arrOf st1)[lo+i])) ⟨rfl,0,k,rfl,OI _,NK _,by omega,fun i hi z=>absurd z (Rh _),fun i hi z1 z2=>by omega⟩ (fun x m z st2 hz=>?_) (fun z st2 hz=>?_)) (fun z st2 hz=>?_))
  ·obtain⟨rfl,l,r,rfl,b1,b2,b3,b4,b5⟩:=hz
   by_cases hl:l ≥ r
   ·rw[if_pos hl]
    have:l=r:=by omega
    subst this
    exact Gv.pure ⟨rfl,l,l,rfl,b2,b4,b5⟩
   ·rw[if_neg hl]
    have hm:lo+(l+r) / 2<(arrOf st2).size:=by omega
    have sr:∀{i j:Nat},(hij:i<j)->(hj:j<k)->kk ((arrOf st2)[lo+i]'(by omega))<kk ((arrOf st2)[lo+j]'(by omega)):=fun{i j} hij hj=>by
     have g1':Srt kk (seg (arrOf st2) lo k):=by simp_all
     exact jj (by omega) g1' (by omega) (by omega) (by omega)
    refine Gv.bind (Gv.ltAt c o1 hk1 hm ?_)
    dsimp only
    by_cases lt:kk (arrOf st2)[lo+k]<kk (arrOf st2)[lo+(l+r) / 2]
    ·rw[decide_eq_true lt]
     refine Gv.pure ⟨rfl,l,(l+r) / 2,rfl,by omega,by omega,by omega,b4,fun i hi z1 z2=>?_⟩
     rcases Ph z1 with z | z
     ·grind
     simp_all
    ·rw[decide_eq_false lt]
     have ne:=qg o1.nd hk1 hm (by omega)
     refine Gv.pure ⟨rfl,(l+r) / 2+1,r,rfl,by omega,by omega,by omega,fun i hi z1=>?_,b5⟩
     rcases Ph (show i<=(l+r) / 2 by omega) with z | z
     ·grind
     grind
  ·grind
  ·obtain⟨rfl,l,r,rfl,b2,b4,b5⟩:=hz
   have bl:=uV (a:=arrOf st2) (show lo+l<=lo+k by omega) hk1
   rw[show lo+k - (lo+l)=k - l by omega] at bl
   have p2:Prt (arrOf st2) (bubble (arrOf st2) (lo+k) (lo+k - (lo+l))) (lo+l) (k - l+1) ((arrOf st2)[lo+k]::seg (arrOf st2) (lo+l) (k - l)):=by
    refine⟨?_,?_⟩
    ·grind
    ·rw[gE (by omega)]
     grind
   with_unfolding_all refine Gv.bind (Gv.oq fun st3 g=>?_)
   have r3:Arr st2 st3 (bubble (arrOf st2) (lo+k) (lo+k - (lo+l))):=⟨by rw[g],by rw[g],by rw[g],by rw[g];rfl⟩
   clear g
   have p3:=p2.widen (lo:=lo) (n:=n) (by omega) (by omega) (by omega)
   rw[ha1] at p3
   have p4:=p1.trans p3 hn
   rw[<- ha1] at p4
   refine Gv.pure ⟨rfl,_,⟨r3.kind.trans r1.kind,r3.fail.trans r1.fail,r3.pend.trans r1.pend,r3.arr⟩,p4,?_,by omega⟩
   exact DY hk1 b2 (by simp_all) b4 b5 p2
 ·grind
 ·obtain⟨rfl,a1,r1,p1,g1⟩:=hz
  dsimp only
  exact Gv.pure (h a1 st1 r1 p1 g1)
end
section
variable {prog:NT}{w:Oe}{A:Oa}{E:NI->NM->Prop}{s:NM}{κ:Rk}{P:OC->Prop}{kk:OC->Int}
def Prt.after {i m lo n:Nat} (p:Prt a a' i m S) (h2:i+m<=lo) (h3:i+m<=a.size):L2.SM.seg a' lo n=L2.SM.seg a lo n:=by
 unfold L2.SM.seg
 rw[p.tail h2 h3]
def Rn (kk:OC->Int) (a:Array OC):Nat->List (Nat × Nat × Nat)->Nat->Prop
 | s,[],lo=>s=lo
 | s,x::r,lo=>x.1=s/\1<=x.2.1/\Srt kk (seg a s x.2.1)/\Rn kk a (s+x.2.1) r lo
theorem Rn.le {a:Array OC}:∀{L:List (Nat × Nat × Nat)}{s lo:Nat},Rn kk a s L lo->s+L.length<=lo
 | [],s,lo,h=>by have:s=lo:=h;grind
 | x::r,s,lo,h=>by have:=Rn.le h.2.2.2;have:=h.2.1;grind
theorem Rn.app {a:Array OC}:∀{X Y:List (Nat × Nat × Nat)}{s lo:Nat},Rn kk a s (X++Y) lo↔∃m,Rn kk a s X m/\Rn kk a m Y lo
 | [],Y,s,lo=>⟨fun h=>⟨s,rfl,h⟩,fun⟨m,h1,h2⟩=>by have:s=m:=h1;simp_all⟩
 | x::X,Y,s,lo=>by
  constructor
  ·intro h
   obtain⟨m,h1,h2⟩:=Rn.app.mp h.2.2.2
   exact⟨m,⟨h.1,h.2.1,h.2.2.1,h1⟩,h2⟩
  ·intro⟨m,h1,h2⟩
   exact⟨h1.1,h1.2.1,h1.2.2.1,Rn.app.mpr ⟨m,h1.2.2.2,h2⟩⟩
theorem Rn.Eh {a a':Array OC}:∀{L:List (Nat × Nat × Nat)}{s lo:Nat},Rn kk a s L lo->(∀i k,s<=i->i+k<=lo->seg a' i k=seg a i k)->Rn kk a' s L lo
 | [],s,lo,h,_=>h
 | x::r,s,lo,h,e=>by
  have l:=Rn.le h.2.2.2
  refine⟨h.1,h.2.1,?_,Rn.Eh h.2.2.2 fun i k h1 h2=>e i k (by omega) h2⟩
  rw[e s x.2.1 (NK _) (by omega)];exact h.2.2.1
theorem Rn.pow {a:Array OC}:∀{L L':List (Nat × Nat × Nat)}{s lo:Nat},Rn kk a s L lo->L'.map (fun x=>(x.1,x.2.1))=L.map (fun x=>(x.1,x.2.1))->Rn kk a s L' lo
 | [],[],s,lo,h,_=>h
 | [],_::_,s,lo,h,e=>by simp at e
 | _::_,[],s,lo,h,e=>by simp at e
 | x::r,y::r',s,lo,h,e=>by
  simp only[NR,Ta,Prod.mk.injEq] at e
  obtain⟨⟨e1,e2⟩,e3⟩:=e
  refine⟨e1.trans h.1,by rw[e2];exact h.2.1,by rw[e2];exact h.2.2.1,?_⟩
  rw[e2];exact Rn.pow h.2.2.2 e3
structure J (κ) (P) (kk) (st0 st) (lo):Prop where
 ok:Ok κ P kk st
 perm:(arrOf st).toList.Perm (arrOf st0).toList
 runs:Rn kk (arrOf st) 0 (pendingOf st).toList lo
 le:lo<=(arrOf st).size
theorem J.size {st0 st:N3}{lo:Nat} (j:J κ P kk st0 st lo):(arrOf st).size=(arrOf st0).size:=by have:=j.perm.length_eq;omega
def gz {i lo:Nat}{st0 st:N3} (c:Cmp prog w A s κ P kk) (j:J κ P kk st0 st lo) (hi:i+2<=(pendingOf st).size)
  (h:∀st',J κ P kk st0 st' lo->(pendingOf st').size+1=(pendingOf st).size->(∀q k,lo<=q->seg (arrOf st') q k=seg (arrOf st) q k)->Q true st'):Gv prog w A E s (mergeAt' i) st Q:=by
 have hl:i+2<=(pendingOf st).toList.length:=by omega
 obtain⟨X,x,y,Y,e,hX⟩:∃X x y Y,(pendingOf st).toList=X++x::y::Y/\X.length=i:=by
  refine⟨(pendingOf st).toList.take i,(pendingOf st).toList[i],(pendingOf st).toList[i+1],(pendingOf st).toList.drop (i+2),?_,by grind⟩
  rw[<- Ot,<- Ot,QB]
 have rn:=j.runs
 rw[e] at rn
 obtain⟨m,r1,r2⟩:=Rn.app.mp rn
 obtain⟨x1,x2,x3⟩:=x
 obtain⟨y1,y2,y3⟩:=y
 obtain⟨q1,q2,q3,q4,q5,q6,q7⟩:=r2
 dsimp only at q1 q2 q3 q4 q5 q6 q7
 subst q1
 subst q4
 have l7:=q7.le
 have hs:=j.le
 have p1:(pendingOf st)[i]?=some (x1,x2,x3):=by rw[<- Oq,e,N8 (by omega),hX,Nat.sub_self];rfl
 have p2:(pendingOf st)[i+1]?=some (x1+x2,y2,y3):=by rw[<- Oq,e,N8 (by omega),hX,Nat.add_sub_cancel_left];rfl
 refine wz c j.ok.kind j.ok.fail j.ok.all j.ok.nd p1 p2 q2 q5 (by omega) q3 q6 (fun st' M k1 f1 pd1 a1 pm sm=>?_)
 have pr:Prt (arrOf st) (arrOf st') x1 (x2+y2) M:=⟨by grind,pm⟩
 have pl:(pendingOf st').toList=X++(x1,x2+y2,x3)::Y:=by
  rw[pd1]
  have e1:(((pendingOf st).setIfInBounds i (x1,x2+y2,x3)).eraseIdxIfInBounds (i+1)).toList=((pendingOf st).toList.set i (x1,x2+y2,x3)).eraseIdx (i+1):=by simp
  rw[e1,e,<- hX]
  simp[List.eraseIdx_append]
  omega
 refine h st' ⟨⟨k1,f1,pr.P j.ok.all,pr.nd j.ok.nd⟩,pr.all.trans j.perm,?_,by rw[pr.size];exact hs⟩ ?_ (fun q k hq=>pr.after (by omega) (by omega))
 ·rw[pl]
  refine Rn.app.mpr ⟨x1,r1.Eh fun i k h1 h2=>pr.before (by omega) h2,rfl,by grind,?_,?_⟩
  ·show Srt kk (seg (arrOf st') x1 (x2+y2))
   rw[pr.seg (by omega)];exact sm
  ·show Rn kk (arrOf st') (x1+(x2+y2)) Y lo
   rw[<- Nat.add_assoc]
   exact q7.Eh fun i k h1 h2=>pr.after (by omega) (by omega)
 grind
end
section
variable {prog:NT}{w:Oe}{A:Oa}{E:NI->NM->Prop}{s:NM}{κ:Rk}{P:OC->Prop}{kk:OC->Int}
def J.part {st0 st st2:N3}{lo n:Nat} (j:J κ P kk st0 st lo) (r:Arr st st2 a2) (p:Prt (arrOf st) a2 lo n S) (hn:lo+n<=(arrOf st).size):J κ P kk st0 st2 lo:=by
 refine⟨r.ok j.ok p,by rw[r.arr];exact p.all.trans j.perm,?_,by rw[r.arr,p.size];omega⟩
 rw[r.arr,r.pend]
 exact j.runs.Eh fun i k h1 h2=>p.before hn h2
def J.push {st0 st st':N3}{lo n:Nat} (j:J κ P kk st0 st lo) (ek:kindOf st'=kindOf st) (ef:failedOf st'=failedOf st) (ea:arrOf st'=arrOf st) (ep:(pendingOf st').toList.map (fun x=>(x.1,x.2.1))=(pendingOf st).toList.map (fun x=>(x.1,x.2.1))++[(lo,n)]) (h1:1<=n) (hn:lo+n<=(arrOf st).size) (sr:Srt kk (seg (arrOf st) lo n)):J κ P kk st0 st' (lo+n):=by
 refine⟨⟨ek.trans j.ok.kind,ef.trans j.ok.fail,by rw[ea];exact j.ok.all,by rw[ea];exact j.ok.nd⟩,by rw[ea];exact j.perm,?_,by simp_all⟩
 rw[ea]
 refine Rn.pow (L:=(pendingOf st).toList++[(lo,n,0)]) (Rn.app.mpr ⟨lo,j.runs,rfl,h1,sr,rfl⟩) ?_
 simp_all
def tU (p:Array (Nat × Nat × Nat)) (i pw lo) (n):((p.modify i fun x=>(x.1,x.2.1,pw)).push (lo,n,0)).toList.map (fun x=>(x.1,x.2.1))=p.toList.map (fun x=>(x.1,x.2.1))++[(lo,n)]:=by
 rw[Sy,R7]
 congr 1
 apply Qi
 grind
def Bc (p:Array (Nat × Nat × Nat)) (lo n):(p.push (lo,n,0)).toList.map (fun x=>(x.1,x.2.1))=p.toList.map (fun x=>(x.1,x.2.1))++[(lo,n)]:=by
 simp
def tS {st:N3} (c:Cmp prog w A s κ P kk) (o:Ok κ P kk st) (hp:pendingOf st = #[]) (h:∀st',failedOf st'=none->(arrOf st').toList.Perm (arrOf st).toList->Srt kk (arrOf st').toList->Q () st'):Gv prog w A E s sortRuns' st Q:=by
 have j0:J κ P kk st st 0:=⟨o,.refl _,by rw[hp];rfl,OI _⟩
 with_unfolding_all refine Gv.bind (Gv.get ?_)
 refine Gv.bind (Gv.mono (Q:=fun z st'=>∃lo,z=(none,lo)/\J κ P kk st st' (arrOf st).size) (Gv.range (fun m z st'=>∃lo,z=(none,lo)/\J κ P kk st st' lo/\(arrOf st).size<=lo+m) ⟨0,rfl,j0,by simp⟩ (fun x m z st1 hz=>?_) (fun z st1 hz=>?_)) (fun z st1 hz=>?_))
 ·obtain⟨lo,rfl,j1,pr⟩:=hz
  have sz1:=j1.size
  have le1:=j1.le
  by_cases hl:lo ≥ (arrOf st).size
  ·rw[if_pos hl]
   have:lo=(arrOf st).size:=by omega
   subst this
   exact Gv.pure ⟨_,rfl,j1⟩
  rw[if_neg hl]
  refine Gv.bind (sI c j1.ok (nrem:=(arrOf st).size - lo) (by omega) (by omega) (fun n a2 st2 S n1 n2 r2 p2 sS=>?_))
  have j2:=j1.part r2 p2 (by omega)
  have s2:Srt kk (seg (arrOf st2) lo n):=by rw[r2.arr,p2.seg (by omega)];exact sS
  have sz2:=j2.size
  dsimp only
  generalize hmr:(minRun' (arrOf st).size (arrOf st).size 0)=mr
  by_cases lt:n<mr
  ·rw[<- hmr] at lt
   refine aX (fun lt'=>?_) (fun nl=>absurd lt nl)
   refine Gv.bind (Gv.rule ?_)
   refine Gv.bind (oP c j2.ok (n:=min ((arrOf st).size - lo) (minRun' (arrOf st).size (arrOf st).size 0)) (by omega) n1 (by omega) s2 (fun a3 st3 r3 p3 s3=>?_))
   have hN1:1<=(min ((arrOf st).size - lo) (minRun' (arrOf st).size (arrOf st).size 0)):=by omega
   have hN2:lo+(min ((arrOf st).size - lo) (minRun' (arrOf st).size (arrOf st).size 0))<=(arrOf st).size:=by omega
   have jX:J κ P kk st st3 lo:=j2.part r3 p3 (by omega)
   have sX:Srt kk (seg (arrOf st3) lo (min ((arrOf st).size - lo) (minRun' (arrOf st).size (arrOf st).size 0))):=by rw[r3.arr];exact s3
   refine Gv.bind (Gv.get ?_)
   split
   ·refine Gv.bind (Gv.mono (Q:=fun z st4=>z=(none,())/\J κ P kk st st4 lo/\Srt kk (seg (arrOf st4) lo (min ((arrOf st).size - lo) (minRun' (arrOf st).size (arrOf st).size 0)))) (Gv.range (fun m z st4=>z=(none,())/\J κ P kk st st4 lo/\Srt kk (seg (arrOf st4) lo (min ((arrOf st).size - lo) (minRun' (arrOf st).size (arrOf st).size 0)))) ⟨rfl,jX,sX⟩ (fun x m z st4 hz=>?_) (fun z st4 hz=>hz)) (fun z st4 hz=>?_))
    ·obtain⟨rfl,j4,s4⟩:=hz
     refine Gv.bind (Gv.get ?_)
     by_cases h2:(pendingOf st4).size > 1
     ·rw[if_pos h2]
      split
      ·refine aX (fun _=>Gv.pure ⟨rfl,j4,s4⟩) (fun _=>?_)
       refine Gv.bind (gz (i:=(pendingOf st4).size - 2) c j4 (by omega) (fun st5 j5 _ e5=>?_))
       exact Gv.pure ⟨rfl,j5,by simp_all⟩
      grind
     ·rw[if_neg h2]
      exact Gv.pure ⟨rfl,j4,s4⟩
    ·obtain⟨rfl,j4,s4⟩:=hz
     dsimp only
     refine Gv.bind (Gv.oq fun st5 g5=>?_)
     refine Gv.bind (Gv.oq fun st6 g6=>?_)
     have j6:J κ P kk st st6 (lo+(min ((arrOf st).size - lo) (minRun' (arrOf st).size (arrOf st).size 0))):=by
      refine j4.push (by grind) (by grind) (by grind) ?_ hN1 (by have:=j4.size;omega) s4
      rw[g6,g5]
      exact tU _ _ _ _ _
     exact Gv.pure ⟨lo+(min ((arrOf st).size - lo) (minRun' (arrOf st).size (arrOf st).size 0)),rfl,j6,by omega⟩
   ·refine Gv.bind (Gv.oq fun st6 g6=>?_)
    have j6:J κ P kk st st6 (lo+(min ((arrOf st).size - lo) (minRun' (arrOf st).size (arrOf st).size 0))):=by
     refine jX.push (by rw[g6]) (by rw[g6]) (by rw[g6]) ?_ hN1 (by have:=jX.size;omega) sX
     rw[g6]
     exact Bc _ _ _
    exact Gv.pure ⟨lo+(min ((arrOf st).size - lo) (minRun' (arrOf st).size (arrOf st).size 0)),rfl,j6,by omega⟩
  ·rw[<- hmr] at lt
   refine aX (fun lt'=>absurd lt' lt) (fun nl=>?_)
   have jX:=j2
   have sX:=s2
   have hN1:1<=n:=n1
   have hN2:lo+n<=(arrOf st).size:=by omega
   refine Gv.bind (Gv.get ?_)
   split
   ·refine Gv.bind (Gv.mono (Q:=fun z st4=>z=(none,())/\J κ P kk st st4 lo/\Srt kk (seg (arrOf st4) lo n)) (Gv.range (fun m z st4=>z=(none,())/\J κ P kk st st4 lo/\Srt kk (seg (arrOf st4) lo n)) ⟨rfl,jX,sX⟩ (fun x m z st4 hz=>?_) (fun z st4 hz=>hz)) (fun z st4 hz=>?_))
    ·obtain⟨rfl,j4,s4⟩:=hz
     refine Gv.bind (Gv.get ?_)
     by_cases h2:(pendingOf st4).size > 1
     ·rw[if_pos h2]
      split
      ·refine aX (fun _=>Gv.pure ⟨rfl,j4,s4⟩) (fun _=>?_)
       refine Gv.bind (gz (i:=(pendingOf st4).size - 2) c j4 (by omega) (fun st5 j5 _ e5=>?_))
       exact Gv.pure ⟨rfl,j5,by simp_all⟩
      grind
     ·rw[if_neg h2]
      exact Gv.pure ⟨rfl,j4,s4⟩
    ·obtain⟨rfl,j4,s4⟩:=hz
     dsimp only
     refine Gv.bind (Gv.oq fun st5 g5=>?_)
     refine Gv.bind (Gv.oq fun st6 g6=>?_)
     have j6:J κ P kk st st6 (lo+n):=by
      refine j4.push (by grind) (by grind) (by grind) ?_ hN1 (by have:=j4.size;omega) s4
      rw[g6,g5]
      exact tU _ _ _ _ _
     exact Gv.pure ⟨lo+n,rfl,j6,by omega⟩
   ·refine Gv.bind (Gv.oq fun st6 g6=>?_)
    have j6:J κ P kk st st6 (lo+n):=by
     refine jX.push (by rw[g6]) (by rw[g6]) (by rw[g6]) ?_ hN1 (by omega) sX
     grind
    exact Gv.pure ⟨lo+n,rfl,j6,by omega⟩
 ·obtain⟨lo,rfl,j1,pr⟩:=hz
  have:=j1.le
  have:=j1.size
  grind
 ·obtain⟨lo,rfl,j1⟩:=hz
  dsimp only
  have ps:(pendingOf st1).size<=(arrOf st).size:=by have:=j1.runs.le;simp_all
  refine Gv.bind (Gv.mono (Q:=fun z st4=>z=(none,())/\J κ P kk st st4 (arrOf st).size/\(pendingOf st4).size<=1) (Gv.range (fun m z st4=>z=(none,())/\J κ P kk st st4 (arrOf st).size/\(pendingOf st4).size<=m+1) ⟨rfl,j1,by grind⟩ (fun x m z st4 hz=>?_) (fun z st4 hz=>?_)) (fun z st4 hz=>?_))
  ·obtain⟨rfl,j4,l4⟩:=hz
   refine Gv.bind (Gv.get ?_)
   by_cases h1:(pendingOf st4).size<=1
   ·rw[if_pos h1]
    exact Gv.pure ⟨rfl,j4,h1⟩
   ·rw[if_neg h1]
    refine Gv.bind (gz c j4 ?_ (fun st5 j5 e5 _=>?_))
    ·grind
    ·exact Gv.pure ⟨rfl,j5,by omega⟩
  ·omega
  ·obtain⟨rfl,j4,l4⟩:=hz
   dsimp only
   refine Gv.pure (h st4 j4.ok.fail j4.perm ?_)
   have rn:=j4.runs
   have sz:=j4.size
   have l5:(pendingOf st4).toList.length<=1:=by omega
   cases e:(pendingOf st4).toList with
   | nil=>
    rw[e] at rn
    have:0=(arrOf st).size:=rn
    have e2:(arrOf st4).toList=[]:=Rl.mp (by simp_all)
    rw[e2];exact Rw
   | cons x r=>
    rw[e] at rn l5
    have:r=[]:=Rl.mp (by simp_all)
    subst this
    obtain⟨r1,r2,r3,r4⟩:=rn
    have r4:0+x.2.1=(arrOf st).size:=r4
    have e2:seg (arrOf st4) 0 x.2.1=(arrOf st4).toList:=by
     unfold seg
     rw[Tp,Pl (by simp_all)]
    simp_all
end
end L2.SM
namespace L2.Srt
open PySem PySem.W PyProof.Rows PySem.Calls L2.SM
section
variable {prog:NT}{w:Oe}{A:Oa}{E:NI->NM->Prop}{s:NM}{a:Addr}{vs:List NI}
def qD (vs:List NI):(vs.toArray.zip vs.toArray).toList=vs.map fun v=>(v,v):=by
 simp only[Array.toList_zip]
 induction vs with
 | nil=>rfl
 | cons v vs ih=>simp_all
def oK (ho:s.heap.get? a=some (seqObj "list" vs.toArray n)) (h2:2<=vs.length) (hz:vs.length<=100000)
  (hk:wpAny (model prog w) A (keyKind' vs.toArray) (fun κ s'=>s'={ s with heap:=dM s.heap a vs }/\Cmp prog w A { s with heap:=dM s.heap a vs } κ (fun x=>x.1∈vs/\x.2=x.1) (fun x=>kv x.1)) (fun _ _=>False) { s with heap:=dM s.heap a vs }) (nd:(vs.map kv).Nodup)
  (h:∀out:List NI,out.Perm vs->out.Pairwise (fun x y=>kv x<kv y)->P (.done (.ret .none)) { s with heap:=sortedHeap s.heap a vs out.toArray }) :
  wpAny (model prog w) A (Ow.«list.sort» ⟨[.ref a],[]⟩) P E s:=by
 obtain⟨e1,ho1⟩:∃e1,(s.heap.update a (Qf fun _=>(#[]:Array NI))).get? a=some (seqObj "list" #[] e1):=⟨_,S9 ho fun _=>#[]⟩
 have hm:(dM s.heap a vs).get? a=some (seqObj "list" #[] e1):=NF _ (NF _ ho1)
 rw[list_sort_plain]
 refine gV (S8 ho rfl ?_)
 refine gV (RX ho rfl ?_ (by rw[OW,OY];omega) (OI _))
 refine gV (Tu ho1 rfl ?_)
 refine gV (wpAny_newTuple ?_ (by show vs.length<=_;rw[OY];omega))
 refine gV (Ri ?_ (OI _))
 refine N9 ?_
 have hn2:¬ vs.toArray.size<2:=by simp_all
 rw[if_neg hn2,if_neg hn2]
 refine gV (N6 hk (fun κ s0 hk=>?_) fun _ _ x=>x.elim)
 obtain⟨rfl,cm⟩:=hk
 have zl:=qD vs
 have ok:Ok κ (fun x:OC=>x.1∈vs/\x.2=x.1) (fun x=>kv x.1) (N3.mk' κ (vs.toArray.zip vs.toArray) #[] 7 none):=by
  refine⟨rfl,rfl,fun x hx=>?_,?_⟩
  ·grind
  grind
 refine gV (N6 (tS (Q:=fun _ st'=>failedOf st'=none/\((arrOf st').map (·.2)).toList.Perm vs/\((arrOf st').map (·.2)).toList.Pairwise (fun x y=>kv x<kv y)) cm ok rfl (fun st' f1 pm sr=>⟨f1,?_,?_⟩)) ?_ fun _ _ e=>e)
 ·have:=pm.map (fun x:OC=>x.2)
  rw[Array.toList_map]
  refine this.trans ?_
  rw[zl,Pa]
  have:((fun x:OC=>x.2) ∘ fun v=>(v,v))=(id:NI->NI):=rfl
  simp_all
 ·rw[Array.toList_map,PJ]
  refine Q3 ?_ sr
  grind
 rintro⟨⟨⟩,st'⟩ s' ⟨rfl,hf,pm,sr⟩
 have hsz:((arrOf st').map (·.2)).size=vs.length:=by have:=pm.length_eq;omega
 refine gV (Tu hm rfl ?_)
 refine gV (RX hm rfl ?_ (OI _) (N4 (Nat.le_of_eq hsz) (by rw[OY];omega)))
 rw[hf]
 simp only[bne_self_eq_false]
 have:=h _ pm sr
 exact NG this
end
noncomputable def kT:Nat->List Int->Int
 | 0,_=>0
 | _+1,[]=>0
 | n+1,x::r=>(x+1)*100 ^ n+kT n r
noncomputable def oZ:List Int->List Int->Bool
 | [],ys=>decide (0<ys.length)
 | _::_,[]=>false
 | x::xs,y::ys=>if x=y then oZ xs ys else decide (x<y)
def Bd (xs:List Int):Prop:=∀x∈xs,0<=x/\x<=98
theorem uN:∀(n:Nat){xs:List Int},Bd xs->0<=kT n xs/\kT n xs<100 ^ n
 | 0,xs,_=>by unfold kT;omega
 | n+1,[],_=>by unfold kT;exact⟨Int.le_refl _,SN (by decide)⟩
 | n+1,x::r,b=>by
  have h:=uN n fun y hy=>b y (NH _ hy)
  have hx:=b x NO
  unfold kT
  have q1:0<=(x+1)*100 ^ n:=Int.mul_nonneg (by omega) (by omega)
  have q2:(x+1)*100 ^ n<=99*100 ^ n:=OZ (by omega) (by omega)
  omega
theorem Bf:∀(n:Nat){xs ys:List Int},Bd xs->Bd ys->xs.length<=n->ys.length<=n->oZ xs ys=decide (kT n xs<kT n ys)
 | n,[],[],_,_,_,_=>by cases n<;>simp[oZ]
 | 0,[],y::ys,_,_,_,h=>by simp at h
 | 0,x::xs,ys,_,_,h,_=>by simp at h
 | n+1,[],y::ys,_,by_,_,_=>by
  have h:=(uN n fun z hz=>by_ z (NH _ hz)).1
  have hy:=by_ y NO
  have p:(0:Int)<100 ^ n:=SN (by decide)
  have q:0<(y+1)*100 ^ n:=Int.mul_pos (by omega) p
  unfold oZ kT
  grind
 | n+1,x::xs,[],bx,_,_,_=>by
  have h:=(uN n fun z hz=>bx z (NH _ hz)).1
  have hx:=bx x NO
  have p:(0:Int)<100 ^ n:=SN (by decide)
  have q:0<(x+1)*100 ^ n:=Int.mul_pos (by omega) p
  unfold oZ kT
  grind
 | n+1,x::xs,y::ys,bx,by_,lx,ly=>by
  have ih:=Bf n (fun z hz=>bx z (NH _ hz)) (fun z hz=>by_ z (NH _ hz)) (by simp_all) (by simp_all)
  have hX:=uN n fun z hz=>bx z (NH _ hz)
  have hY:=uN n fun z hz=>by_ z (NH _ hz)
  unfold oZ kT
  by_cases e:x=y
  ·simp_all
  ·rw[if_neg e]
   by_cases z:x<y
   ·have:(x+1+1)*100 ^ n<=(y+1)*100 ^ n:=OZ (by omega) (by omega)
    grind
   ·have:(y+1+1)*100 ^ n<=(x+1)*100 ^ n:=OZ (by omega) (by omega)
    grind
section
variable {prog:NT}{w:Oe}{A:Oa}{E:NI->NM->Prop}{s:NM}
theorem uE {fin:Bool}{Q:Bool->NM->Prop}:∀{us vs:List NI}{xs ys:List Int} (i:Nat),IntsAre us xs->IntsAre vs ys->fin=decide (xs.length<ys.length)->Q (oZ xs ys) s->KatLex prog w A true fin Q (us.zip vs) i s
 | _,_,_,_,i,.nil,.nil,e,h=>by subst e;assumption
 | _,_,_,_,i,.nil,.cons y t r,e,h=>by subst e;assumption
 | _,_,_,_,i,.cons x t r,.nil,e,h=>by subst e;assumption
 | _,_,_,_,i,.cons x t r,.cons y u r',e,h=>by
  refine kat_cons (wpAny_eqBool_int (kat_go (fun e1=>kat_yes ?_) (fun e1=>kat_no ?_)))
  ·have e1:x=y:=by simp_all
   refine uE (i+1) r r' ?_ ?_
   ·rw[e];simp
   ·unfold oZ at h;simp_all
  ·have e1:¬ x=y:=by simp_all
   unfold oZ at h
   rw[if_neg e1] at h
   cases i with
   | zero=>exact oneLt_int h
   | succ i=>
    have:((true&&(i+1 == 0)):Bool)=false:=by simp
    exact kat_one _ _ (lt_int h)
end
inductive Tps (h:Heap):List NI->List (List Int)->Prop
 | nil:Tps h [] []
 | cons {us:Array NI} {xs:List Int} {vs:List NI} {xss:List (List Int)}:h.get? a=some o->o.cls=.type "tuple" -> o.data=.seq us k->IntsAre us.toList xs->Tps h vs xss->Tps h (.ref a::vs) (xs::xss)
noncomputable def kvH (h:Heap):NI->Int
 | .ref a=>match h.get? a with
  | some o=>match o.data with
   | .seq us _=>kT 20 (us.toList.map numOf)
   | _=>0
  | none=>0
 | _=>0
section
variable {prog:NT}{w:Oe}{A:Oa}{E:NI->NM->Prop}{s:NM}{vs:List NI}{xss:List (List Int)}{h h':Heap}
def Tps.len (r:Tps h vs xss):vs.length=xss.length:=by
 induction r with
 | nil=>rfl
 | cons _ _ _ _ _ ih=>simp[ih]
def Tps.keeps (r:Tps h vs xss) (k:∀b o,h.get? b=some o->h'.get? b=some o):Tps h' vs xss:=by
 induction r with
 | nil=>exact .nil
 | cons a b c d _ ih=>exact .cons (k _ _ a) b c d ih
def Tps.kv (r:Tps h vs xss):vs.map (kvH h)=xss.map (kT 20):=by
 induction r with
 | nil=>rfl
 | @cons a o k us xs vs xss ha hc hd hi r ih=>
  rw[NR]
  congr 1
  unfold kvH
  simp only[ha,hd,hi.nums]
def Tps.mem (r:Tps h vs xss) (hv:v∈vs):∃a o k us xs,v=.ref a/\h.get? a=some o/\o.data=.seq us k/\IntsAre us.toList xs/\xs∈xss/\kvH h v=kT 20 xs:=by
 induction r with
 | nil=>cases hv
 | @cons a o k us xs vs xss ha hc hd hi r ih=>
  rcases NV.mp hv with rfl | hv
  ·refine⟨a,o,k,us,xs,rfl,ha,hd,hi,NO,?_⟩
   unfold kvH
   simp only[ha,hd,hi.nums]
  grind
def Tps.i5 (r:Tps h vs xss) (ne:∀xs∈xss,xs≠[]):∃fs,KatTups h vs fs/\fs.length=xss.length/\∀v∈fs,∃x t,v=Qw x t:=by
 induction r with
 | nil=>exact⟨[],KatTups.nil,rfl,by simp⟩
 | @cons a o k us xs vs xss ha hc hd hi r ih=>
  obtain⟨fs,q1,q2,q3⟩:=ih fun xs hx=>ne xs (NH _ hx)
  obtain⟨x,t,ul,e⟩:∃x t ul,us.toList=Qw x t::ul:=by
   have:=ne xs NO
   generalize us.toList=l at hi
   cases hi with
   | nil=>simp_all
   | cons n t r=>simp
  have e0:us[0]?=some (Qw x t):=by rw[<- Oq,e];rfl
  refine⟨.int x t::fs,KatTups.cons ha hc hd e0 q1,by simp[q2],fun v hv=>?_⟩
  grind
def Bg {β γ:Type}{f:β->γ}:∀{out m:List γ},out.Perm m->∀{l:List β},m=l.map f->∃q:List β,q.Perm l/\out=q.map f:=by
 intro out m h
 induction h with
 | nil=>simp
 | cons x _ ih=>
  intro l e
  cases l with
  | nil=>cases e
  | cons b l=>
   injection e with e1 e2
   obtain⟨q,hq,e3⟩:=ih e2
   exact⟨b::q,hq.cons b,by simp_all⟩
 | swap x y l'=>
  intro l e
  cases l with
  | nil=>cases e
  | cons b l=>
   cases l with
   | nil=>simp at e
   | cons c l=>
    simp only[NR,Ta] at e
    obtain⟨e1,e2,e3⟩:=e
    exact⟨c::b::l,S_.swap _ _ _,by simp_all⟩
 | trans _ _ ih1 ih2=>
  intro l e
  obtain⟨q,hq,e2⟩:=ih2 e
  obtain⟨q',hq',e3⟩:=ih1 e2
  exact⟨q',hq'.trans hq,e3⟩
def range_getD {β:Type} (l) (d:β):l=(NQ l.length).map fun i=>l.getD i d:=by
 apply RN (by simp)
 simp_all
end
end L2.Srt
namespace L2
open PySem PySem.Spec PyProof.Rows L2.Srt
inductive TpV (K) (H):List V->List (List Int)->Prop
 | nil:TpV K H [] []
 | cons {xs:List V} {xss:List (List Int)}:SqT K H a (ns.map V.int)->TpV K H xs xss->TpV K H (.ref a::xs) (ns::xss)
def TpV.len {K:ND} (r:TpV K H xs xss):xs.length=xss.length:=by
 induction r with
 | nil=>rfl
 | cons _ _ ih=>simp[ih]
theorem mH:∀{ns:List Int}{us:List NI},Vals (ns.map V.int) us->IntsAre us ns
 | [],_,.nil=>.nil
 | n::ns,_,.cons ⟨t,e⟩ r=>by subst e;exact .cons n t (mH r)
section
variable {X:Cx}
def Inv.tps {σ:St} (I:Inv X pins σ H s) (r:TpV X.K H xs xss):∀{us:List NI},Vals xs us->Tps s.heap us xss:=by
 induction r with
 | nil=>intro us v;cases v;exact .nil
 | cons h _ ih=>
  intro us v
  cases v with
  | cons ru rv=>
   cases ru
   obtain⟨its,rt,pl,hz⟩:=I.tuple h
   obtain⟨o,ho,hc,n,hd⟩:=pl
   exact .cons ho hc hd (by simpa using mH rt) (ih rv)
end
end L2
namespace L2.FE
open PySem PySem.Spec PyProof.Rows L2.Srt
noncomputable def vC (x:List Int):List (List Int)->List (List Int)
 | []=>[x]
 | y::r=>if kT 20 x<=kT 20 y then x::y::r else y::vC x r
noncomputable def iD:List (List Int)->List (List Int)
 | []=>[]
 | x::r=>vC x (iD r)
theorem kj (x:List Int):∀l,(vC x l).Perm (x::l)
 | []=>.refl _
 | y::r=>by
  unfold vC
  split
  ·rfl
  ·exact((kj x r).cons y).trans (.swap x y r)
theorem iR:∀l,(iD l).Perm l
 | []=>.refl _
 | x::r=>(kj x _).trans ((iR r).cons x)
theorem lh (x:List Int):∀l,l.Pairwise (fun a b=>kT 20 a<=kT 20 b)->(vC x l).Pairwise (fun a b=>kT 20 a<=kT 20 b)
 | [],_=>by simp[vC]
 | y::r,h=>by
  unfold vC
  rw[Oi] at h
  split
  ·rename_i hx
   refine Oi.mpr ⟨fun z hz=>?_,Oi.mpr h⟩
   grind
  ·rename_i hx
   refine Oi.mpr ⟨fun z hz=>?_,lh x r h.2⟩
   rcases NV.mp ((kj x r).mem_iff.mp hz) with rfl | hz
   ·omega
   simp_all
theorem fY:∀l,(iD l).Pairwise (fun a b=>kT 20 a<=kT 20 b)
 | []=>.nil
 | x::r=>lh x _ (fY r)
theorem iM:∀{xs ys:List (List Int)},xs.Perm ys->xs.Pairwise (fun a b=>kT 20 a<kT 20 b)->ys.Pairwise (fun a b=>kT 20 a<=kT 20 b)->xs=ys
 | [],ys,p,_,_=>by simp_all
 | x::xs,[],p,_,_=>absurd (S_.eq_nil p) (by simp)
 | x::xs,y::ys,p,hx,hy=>by
  rw[Oi] at hx hy
  have e:x=y:=by
   grind
  subst e
  rw[iM (List.perm_cons x |>.mp p) hx.2 hy.2]
noncomputable def zD (ns:List Int):D:=.tup (ns.map D.int)
noncomputable def fW:List D->Option (List (List Int))
 | []=>some []
 | .tup ds::r=>match intsOf ds,fW r with
  | some ns,some xss=>some (ns::xss)
  | _,_=>none
 | _::_=>none
theorem nF:∀xss , fW (xss.map zD)=some xss
 | []=>rfl
 | ns::xss=>by
  show(match intsOf (ns.map D.int),fW (xss.map zD) with | some ns,some xss=>some (ns::xss) | _,_=>none)=_
  rw[gf,nF xss]
def Ba {q:List Nat} (pm:q.Perm (NQ xss.length)) (up:(q.map fun i=>kT 20 (xss.getD i [])).Pairwise (· < ·)):q.map (fun i=>xss.getD i [])=iD xss:=by
 refine iM ?_ ?_ (fY xss)
 ·have e:=L2.Srt.range_getD xss []
  have this:(q.map fun i=>xss.getD i []).Perm ((NQ xss.length).map fun i=>xss.getD i []):=pm.map _
  exact(this.trans (.of_eq e.symm)).trans (iR xss).symm
 grind
section
variable {X:Cx}{g:GG}{ε:EE}{K:ND}
theorem pH {α:List Addr}{H:Hp}:∀{ns:List Int}{vs:List V},ao K g α H (ns.map D.int) vs->vs=ns.map V.int
 | [],_,.nil=>rfl
 | n::ns,_,.cons r rs=>by cases r;rw[pH rs];rfl
theorem mP {α:List Addr}{H:Hp}:∀{ds:List D}{xs:List V}{xss:List (List Int)},ao K g α H ds xs->fW ds=some xss->TpV K H xs xss/\ds=xss.map zD
 | _,_,xss,.nil,e=>by cases e;exact⟨.nil,rfl⟩
 | d::ds,_,xss,.cons rd rs,e=>by
  cases rd with
  | @tup es p vs hp rs2=>
   have e:(match intsOf es,fW ds with | some ns,some xss=>some (ns::xss) | _,_=>none)=some xss:=e
   cases e1:intsOf es with
   | none=>simp_all
   | some ns=>
    cases e2:fW ds with
    | none=>simp_all
    | some yss=>
     rw[e1,e2] at e
     cases e
     obtain⟨a,b⟩:=mP rs e2
     have e3:=dR e1
     subst e3
     have e4:=pH rs2
     subst e4
     exact⟨.cons (SqT.of hp) a,by rw[b];rfl⟩
  | _=>cases e
end
end L2.FE
namespace L2.ST
open PySem
abbrev Asc (l:List Nat):Prop:=l.Pairwise (· < ·)
def getD_at {xs:Array Nat} (h):xs.getD i d=xs.toList[i]'(by simpa using h):=by
 simp[h]
theorem nP (xs:Array Nat) (j:Nat) (so:Asc xs.toList):∀(f lo hi:Nat),lo<=hi->hi<=xs.size->hi - lo<=f->(∀i (h:i<xs.toList.length),i<lo->xs.toList[i]<j)->(∀i (h:i<xs.toList.length),hi<=i->j<=xs.toList[i]) →
  ∃r,OU.go xs j f lo hi=r/\r<=xs.size/\(∀i (h:i<xs.toList.length),i<r->xs.toList[i]<j)/\(∀i (h:i<xs.toList.length),r<=i->j<=xs.toList[i])
 | 0,lo,hi,h1,h2,hf,a,b=>⟨lo,rfl,by omega,a,fun i h hi'=>b i h (by omega)⟩
 | f+1,lo,hi,h1,h2,hf,a,b=>by
  unfold OU.go
  by_cases c:lo<hi
  ·rw[if_pos c]
   dsimp only
   have hm:(lo+hi) / 2<xs.size:=by omega
   have hm':(lo+hi) / 2<xs.toList.length:=by omega
   rw[getD_at hm]
   by_cases d:xs.toList[(lo+hi) / 2]<j
   ·rw[if_pos d]
    refine nP xs j so f _ hi (by omega) h2 (by omega) (fun i h hi'=>?_) b
    rcases RK i ((lo+hi) / 2) with e | e
    ·have:=NW.mp so i ((lo+hi) / 2) h hm' e
     omega
    grind
   ·rw[if_neg d]
    refine nP xs j so f lo _ (by omega) (by omega) (by omega) a (fun i h hi'=>?_)
    rcases RK ((lo+hi) / 2) i with e | e
    ·have:=NW.mp so ((lo+hi) / 2) i hm' h e
     omega
    grind
  grind
def jm (j) (so:Asc xs.toList):∃r,OU xs j=r/\r<=xs.size/\(∀i h , i<r->xs.toList[i]<j)/\(∀i h , r<=i->j<=xs.toList[i]):=by
 exact nP xs j so xs.size 0 xs.size (by omega) (NK _) (by omega) (fun i h hi=>by omega) (fun i h hi=>by grind)
def iK (xs) (p) (x:α) (hp:p<=xs.size):(Pb xs p x).toList=xs.toList.take p++x::xs.toList.drop p:=by
 unfold Pb
 simp[List.extract_eq_drop_take]
 rw[Pl (by simp)]
def vo (so:Asc xs.toList) (hj:j∉xs.toList):Asc (Pb xs (OU xs j) j).toList:=by
 obtain⟨r,e,hr,a,b⟩:=jm j so
 rw[e,iK _ _ _ hr]
 have s1:Asc (xs.toList.take r):=so.sublist (List.take_sublist _ _)
 have s2:Asc (xs.toList.drop r):=so.sublist (List.drop_sublist _ _)
 refine Od.mpr ⟨s1,Oi.mpr ⟨fun y hy=>?_,s2⟩,fun x hx y hy=>?_⟩
 ·obtain⟨i,hi,rfl⟩:=Pq hy
  grind
 ·obtain⟨i,hi,rfl⟩:=Pq hx
  rw[OT] at hi
  have h1:=a i (by omega) (by omega)
  rw[Sx]
  rcases NV.mp hy with rfl | hy
  ·exact h1
  ·obtain⟨k,hk,rfl⟩:=Pq hy
   grind
def okM (m:Nat):Prop:=m=7\/m=31\/m=127\/m=511
noncomputable def itr (m:Nat):Nat->Nat->Nat
 | 0,i=>i
 | b+1,i=>itr m b ((i*5+1) % (m+1))
theorem mq (m:Nat):∀a b i,itr m (a+b) i=itr m b (itr m a i)
 | 0,b,i=>by rw[P5];rfl
 | a+1,b,i=>by rw[show a+1+b=(a+b)+1 by omega];exact mq m a b _
noncomputable def G1 (m:Nat):Nat->Nat->List Nat
 | 0,_=>[]
 | b+1,i=>i::G1 m b ((i*5+1) % (m+1))
theorem wZ (m:Nat):∀b i e,e∈G1 m b i->∃c,c<b/\itr m c i=e
 | 0,i,e,h=>by cases h
 | b+1,i,e,h=>by
  rcases NV.mp h with rfl | h
  ·exact⟨0,by omega,rfl⟩
  ·obtain⟨c,h1,h2⟩:=wZ m b _ e h
   exact⟨c+1,by omega,h2⟩
noncomputable def ckO (m:Nat):Bool:=(NQ (m+1)).all (fun e=>(G1 m (m+1) 0).contains e)&&(itr m (m+1) 0 == 0)
def ck7:ckO 7=true:=by rfl
def Lg:ckO 127=true:=by decide +kernel
def K8:ckO 511=true:=by decide +kernel
def JD (h:okM m):ckO m=true:=by
 rcases h with rfl | rfl | rfl | rfl
 ·exact ck7
 ·rfl
 ·exact Lg
 ·exact K8
def KA (h:okM m) (hi:i<=m) (he:e<=m):∃b,b<=m/\itr m b i=e:=by
 have q:=JD h
 unfold ckO at q
 rw[N5,NZ,beq_iff_eq] at q
 obtain⟨q1,q2⟩:=q
 have get:∀x,x<=m->∃c,c<m+1/\itr m c 0=x:=fun x hx=>wZ m _ _ _ (by simpa using q1 x (O1.mpr (by omega)))
 obtain⟨a,ha,ea⟩:=get i hi
 obtain⟨b,hb,eb⟩:=get e he
 rcases RK b a with c | c
 ·refine⟨m+1 - a+b,by omega,?_⟩
  rw[mq,show itr m (m+1 - a) i=0 by rw[<- ea,<- mq,show a+(m+1 - a)=m+1 by omega,q2],eb]
 ·refine⟨b - a,by omega,?_⟩
  rw[<- ea,<- mq,show a+(b - a)=b by omega,eb]
noncomputable def blk (m:Nat):Nat->Nat->Nat->Nat × Nat
 | 0,i,p=>(i,p)
 | b+1,i,p=>blk m b (PB m i p).1 (PB m i p).2
theorem Lc (m:Nat):∀b i,(blk m b i 0).1=itr m b i
 | 0,i=>rfl
 | b+1,i=>by
  show(blk m b ((i*5+1+0 / 32) % (m+1)) (0 / 32)).1=_
  rw[Lc m b];rfl
theorem reach {m e:Nat} (h:okM m) (he:e<=m):∀c i p,p<32 ^ c->i<=m->∃b,b<=m+c/\(blk m b i p).1=e
 | 0,i,p,hp,hi=>by
  have:p=0:=by omega
  subst this
  obtain⟨b,h1,h2⟩:=KA h hi he
  exact⟨b,by omega,by rw[Lc,h2]⟩
 | c+1,i,p,hp,hi=>by
  have h1:p / 32<32 ^ c:=by omega
  have h2:(i*5+1+p / 32) % (m+1)<=m:=QI (Sz _ (by omega))
  obtain⟨b,h3,h4⟩:=reach h he c ((i*5+1+p / 32) % (m+1)) (p / 32) h1 h2
  exact⟨b+1,by omega,h4⟩
def yf (h):OR h<32 ^ 13:=by
 have:(h % 2 ^ 64).toNat<2 ^ 64:=by omega
 exact Q0 this (by decide)
structure Tb (t:ON):Prop where
 m:okM t.mask
 so:Asc t.place.toList
 le:∀x∈t.place.toList,x<=t.mask
 du:t.dummies = #[]
 sz:t.place.size<=t.mask
def Ed (j):ON.has #[] j=false:=by
 rfl
def FD (T:Tb t) (hj:j∈t.place.toList):∃i,t.slot j=.live i/\i<t.place.size:=by
 obtain⟨r,e,hr,a,b⟩:=jm j T.so
 obtain⟨i,hi,ei⟩:=Pq hj
 have h1:r<=i:=by
  grind
 have h2:i<=r:=by
  rcases RK r i with c | c
  ·have q:=b r (by omega) (NK _)
   have:=NW.mp T.so r i (by omega) hi c
   omega
  omega
 have:i=r:=by omega
 subst this
 refine⟨i,?_,by omega⟩
 unfold ON.slot
 grind
def t7 (T:Tb t) (hj:j∉t.place.toList):t.slot j=.empty:=by
 unfold ON.slot
 have:(t.place[OU t.place j]? == some j)=false:=by
  grind
 simp[this,T.du,Ed]
def vk (T:Tb t) (j):(t.slot j=.empty/\j∉t.place.toList)\/∃i,t.slot j=.live i/\i<t.place.size:=by
 by_cases h:j∈t.place.toList
 ·exact .inr (FD T h)
 ·exact .inl ⟨t7 T h,h⟩
theorem Bn:∀{l l':List Nat},l.Nodup->(∀x∈l,x∈l')->l.length<=l'.length
 | [],_,_,_=>OI _
 | x::l,l',nd,s=>by
  obtain⟨n1,n2⟩:=Ox.mp nd
  have:=Bn n2 fun y hy=>(List.mem_erase_of_ne (fun z:y=x=>n1 (z ▸ hy))).mpr (s y (NH _ hy))
  grind
def wL (T:Tb t):∃e,e<=t.mask/\t.slot e=.empty:=by
 by_cases c:∃e,e<=t.mask/\e∉t.place.toList
 ·obtain⟨e,h1,h2⟩:=c
  exact⟨e,h1,t7 T h2⟩
 ·exfalso
  have all:=fun e he=>Classical.byContradiction fun z=>c ⟨e,he,z⟩
  have q:=Bn (l:=NQ (t.mask+1)) SV fun x hx=>all x (by grind)
  rw[RA,NX] at q
  have:=T.sz
  omega
noncomputable def adv (t:ON):Nat->RD->RD
 | 0,q=>q
 | k+1,q=>adv t k (t.advance q)
theorem yi (t:ON):∀a b q,adv t (a+b) q=adv t b (adv t a q)
 | 0,b,q=>by rw[P5];rfl
 | a+1,b,q=>by rw[show a+1+b=(a+b)+1 by omega];exact yi t a b _
noncomputable abbrev pAt (t:ON) (i p:Nat):RD:={ j:=i,more:=O6 t.mask i - i,i:=i,perturb:=p,dummy:=none }
theorem yt (t:ON):∀c (q:RD),q.more=c->q.dummy=none->adv t (c+1) q=pAt t (PB t.mask q.i q.perturb).1 (PB t.mask q.i q.perturb).2
 | 0,q,h,hd=>by
  show t.advance q=_
  unfold RO
  simp_all
 | c+1,q,h,hd=>by
  show adv t (c+1) (t.advance q)=_
  have e:t.advance q={ q with j:=q.j+1,more:=q.more - 1 }:=by unfold RO;simp_all
  rw[e];exact yt t c _ (by simp_all) hd
def HV (m i):O6 m i - i<=9:=by unfold O6;grind
theorem xE (t):∀b i p,∃k,k<=10*b/\adv t k (pAt t i p)=pAt t (blk t.mask b i p).1 (blk t.mask b i p).2
 | 0,i,p=>⟨0,by omega,rfl⟩
 | b+1,i,p=>by
  obtain⟨k,h1,h2⟩:=xE t b (PB t.mask i p).1 (PB t.mask i p).2
  refine⟨O6 t.mask i - i+1+k,by have:=HV t.mask i;omega,?_⟩
  rw[yi,yt t _ (pAt t i p) rfl rfl,h2]
  rfl
def AM (t:ON) (h):(t.probeStart h).j+(t.probeStart h).more<=t.mask:=by
 show OR h % (t.mask+1)+(O6 t.mask (OR h % (t.mask+1)) - OR h % (t.mask+1))<=_
 have:OR h % (t.mask+1)<=t.mask:=QI (Sz _ (by omega))
 unfold O6
 grind
def GO {t:ON} (q) (h:q.j+q.more<=t.mask):(t.advance q).j+(t.advance q).more<=t.mask:=by
 unfold RO
 split
 ·grind
 ·show(PB t.mask q.i q.perturb).1+(O6 t.mask (PB t.mask q.i q.perturb).1 - (PB t.mask q.i q.perturb).1)<=t.mask
  have:(PB t.mask q.i q.perturb).1<=t.mask:=QI (Sz _ (by omega))
  unfold O6
  grind
def Rch (t:ON) (k:Nat) (q:RD):Prop:=q.dummy=none/\q.j+q.more<=t.mask/\t.slot (adv t k q).j=.empty
def zJ (T:Tb t) (h):∃k,k+1<10*P8 t.mask/\Rch t k (t.probeStart h):=by
 obtain⟨e,he,ee⟩:=wL T
 obtain⟨b,h1,h2⟩:=reach T.m he 13 (OR h % (t.mask+1)) (OR h) (yf h) (QI (Sz _ (by omega)))
 obtain⟨k,h3,h4⟩:=xE t b (OR h % (t.mask+1)) (OR h)
 refine⟨k,by unfold P8;omega,rfl,AM t h,?_⟩
 show t.slot (adv t k (pAt t (OR h % (t.mask+1)) (OR h))).j=.empty
 simp_all
def yY (t:ON) (q):(t.advance q).dummy=q.dummy:=by unfold RO;grind
theorem Bx {t:ON} (T:Tb t) (ha:Nat->Int) (h:Int):∀k fuel q,k<fuel->Rch t k q →
  (∃j,SA t ha h fuel q=some (.empty j none)/\j∉t.place.toList/\j<=t.mask)\/(∃j i k' q',SA t ha h fuel q=some (.candidate j i q')/\t.slot j=.live i/\i<t.place.size/\ha i=h/\k'<k/\Rch t k' q')
 | k,0,q,hf,_=>by omega
 | k,f+1,q,hf,R=>by
  unfold SA
  rcases vk T q.j with⟨e,hn⟩ | ⟨i,e,hi⟩
  ·rw[e]
   exact .inl ⟨q.j,by show some (ON.Met.empty q.j q.dummy)=_;rw[R.1],hn,by have:=R.2.1;omega⟩
  ·rw[e]
   cases k with
   | zero=>have:=R.2.2;rw[show adv t 0 q=q from rfl,e] at this;grind
   | succ k=>
    have R':Rch t k (t.advance q):=⟨by rw[yY];exact R.1,GO q R.2.1,R.2.2⟩
    by_cases c:(ha i == h)=true
    ·refine .inr ⟨q.j,i,k,t.advance q,?_,e,hi,by simp_all,by omega,R'⟩
     simp_all
    ·show(∃j,(if (ha i == h)=true then _ else _)=_/\_)\/(∃j i' k' q',(if (ha i == h)=true then _ else _)=_/\_)
     rw[if_neg c]
     rcases Bx T ha h k f (t.advance q) (by omega) R' with⟨j,h1,h2,h3⟩ | ⟨j,i',k',q',h1,h2,h3,h4,h5,h6⟩
     ·simp_all
     ·exact .inr ⟨j,i',k',q',h1,h2,h3,h4,by omega,h6⟩
theorem tO {m:Nat} (owner:Array (Option Nat)){e:Nat} (he:(owner.getD e (some 0)).isNone=true):∀b fuel i p,b<fuel->(blk m b i p).1=e →
  ∃j,Ru m owner fuel i p=some j/\(owner.getD j (some 0)).isNone=true
 | b,0,i,p,h,_=>by omega
 | b,f+1,i,p,h,hb=>by
  unfold Ru
  cases c:(NQ (O6 m i+1 - i)).find? fun k=>(owner.getD (i+k) (some 0)).isNone with
  | some k=>simp_all
  | none=>
   cases b with
   | zero=>
    exfalso
    have hr:O6 m i ≥ i:=by unfold O6;grind
    have:=List.find?_eq_none.mp c 0 (O1.mpr (by omega))
    rw[show i+0=e from hb] at this
    simp_all
   | succ b=>exact tO owner he b f _ _ (by omega) hb
noncomputable def ju (l:List (Option Nat)):List Nat:=l.filterMap id
theorem ue:∀{l:List (Option Nat)},(ju l).length<l.length->∃j:Nat,l[j]?=some none
 | [],h=>by simp_all
 | none::l,_=>⟨0,rfl⟩
 | some x::l,h=>by
  obtain⟨j,e⟩:=ue (by simp[ju] at h ⊢;omega)
  exact⟨j+1,e⟩
theorem rY {k:Nat}:∀{l:List (Option Nat)}{j:Nat},l[j]?=some none->(ju (l.set j (some k))).Perm (k::ju l)
 | none::l,0,_=>by rfl
 | some x::l,0,h=>by cases h
 | none::l,j+1,h=>by simpa [ju] using rY (l:=l) h
 | some x::l,j+1,h=>by
  have:=rY (k:=k) (l:=l) h
  exact(this.cons x).trans (.swap _ _ _)
noncomputable def l9 (m:Nat) (acc:Option (Array (Option Nat) × Nat)) (h:Int):Option (Array (Option Nat) × Nat):=do
 let (owner,k) ← acc
 let j ← Ru m owner (P8 m) (OR h % (m+1)) (OR h)
 pure (owner.setIfInBounds j (some k),k+1)
theorem uh {m:Nat} (hm:okM m):∀(hs:List Int) (owner:Array (Option Nat)) (k:Nat),owner.size=m+1->(ju owner.toList).Perm (NQ k)->k+hs.length<=m+1 →
  ∃owner',hs.foldl (l9 m) (some (owner,k))=some (owner',k+hs.length)/\owner'.size=m+1/\(ju owner'.toList).Perm (NQ (k+hs.length))
 | [],owner,k,hs,hp,_=>⟨owner,rfl,hs,hp⟩
 | h::r,owner,k,hs,hp,hk=>by
  rw[OJ] at hk
  have hl:(ju owner.toList).length<owner.toList.length:=by rw[hp.length_eq,RA,NX];omega
  obtain⟨e,ee⟩:=ue hl
  rw[Oq] at ee
  have he:(owner.getD e (some 0)).isNone=true:=by simp[ee]
  have hle:e<=m:=by grind
  obtain⟨b,h1,h2⟩:=reach hm hle 13 (OR h % (m+1)) (OR h) (yf h) (QI (Sz _ (by omega)))
  obtain⟨j,h3,h4⟩:=tO owner he b (P8 m) _ _ (by unfold P8;omega) h2
  have hj:owner[j]?=some none:=by
   rw[Array.getD_eq_getD_getElem?] at h4
   cases c:owner[j]? with
   | none=>simp_all
   | some x=>simp_all
  have hp2:(ju (owner.setIfInBounds j (some k)).toList).Perm (NQ (k+1)):=by
   rw[Array.toList_setIfInBounds]
   refine(rY (by simp_all)).trans ((hp.cons k).trans ?_)
   grind
  obtain⟨o',q1,q2,q3⟩:=uh hm r (owner.setIfInBounds j (some k)) (k+1) (by simp_all) hp2 (by omega)
  refine⟨o',?_,q2,?_⟩
  ·rw[Qg,show l9 m (some (owner,k)) h=some (owner.setIfInBounds j (some k),k+1) by unfold l9;simp[h3],q1,OJ]
   grind
  grind
def He (hm:okM m) (hs) (hl:hs.size<=m+1):∃owner,SetTable.layClean m hs=some owner/\owner.size=m+1/\(ju owner.toList).Perm (NQ hs.size):=by
 obtain⟨o',q1,q2,q3⟩:=uh hm hs.toList (Array.replicate (m+1) none) 0 (by simp) (by simp[ju]) (by simp_all)
 refine⟨o',?_,q2,by simp_all⟩
 show(hs.foldl (l9 m) (some (Array.replicate (m+1) none,0))).map (·.1)=_
 simp_all
theorem jv (g:Nat->Option Nat):∀l:List Nat,(l.filterMap fun j=>(g j).map (j,·)).map (·.1)=l.filter fun j=>(g j).isSome
 | []=>rfl
 | j::l=>by
  cases e:g j with
  | none=>simpa [e] using jv g l
  | some x=>simpa [e] using jv g l
theorem jH (g:Nat->Option Nat):∀l:List Nat,(l.filterMap fun j=>(g j).map (j,·)).map (·.2)=l.filterMap g
 | []=>rfl
 | j::l=>by
  cases e:g j with
  | none=>simpa [e] using jH g l
  | some x=>simpa [e] using jH g l
def pP (o:Array (Option Nat)):(NQ o.size).filterMap (fun j=>o.getD j none)=ju o.toList:=by
 have e:(NQ o.size).map (fun j=>o.getD j none)=o.toList:=by
  apply RN
  ·simp
  simp_all
 rw[ju,<- e,List.filterMap_map];rfl
def Eo (hm:okM m) (hs) (hl:hs.size<=m):∃t order,ON.laid m f mv ld pl hs=some (t,order)/\Tb t/\t.mask=m/\t.led=ld/\t.plain=pl/\t.place.size=hs.size/\order.toList.Perm (NQ hs.size):=by
 obtain⟨o,q1,q2,q3⟩:=He hm hs (by omega)
 refine⟨{ mask:=m,place:=((NQ (m+1)).filter fun j=>(o.getD j none).isSome).toArray,dummies:=#[],finger:=f,led:=ld,moves:=mv,plain:=pl },(ju o.toList).toArray,?_,?_⟩
 ·unfold ON.laid
  rw[q1]
  show some _=some _
  congr 2
  ·congr 2
   exact jv (fun j=>o.getD j none) _
  ·rw[jH (fun j=>o.getD j none),<- q2,pP]
 ·have len:((NQ (m+1)).filter fun j=>(o.getD j none).isSome).length=hs.size:=by
   rw[<- jv,NY,<- NY,jH,<- q2,pP,q3.length_eq,RA]
  refine⟨⟨hm,?_,?_,rfl,?_⟩,rfl,rfl,rfl,?_,?_⟩
  ·show Asc (List.toArray _).toList
   exact SK.filter _ List.pairwise_lt_range
  ·grind
  ·simp_all
  ·omega
  omega
def GV (T:Tb t) (hj:j∉t.place.toList) (hm:j<=t.mask) (hs:t.place.size+1<=t.mask):Tb (t.put j).1/\(t.put j).1.mask=t.mask/\(t.put j).1.led=t.led/\(t.put j).1.plain=t.plain/\(t.put j).1.place.size=t.place.size+1/\(t.put j).2<=t.place.size:=by
 obtain⟨r,e,hr,_⟩:=jm j T.so
 have il:=iK t.place r j hr
 have sz:(Pb t.place (OU t.place j) j).size=t.place.size+1:=by
  rw[e,<- NX,il,OF,OJ,OT,List.length_drop,NX];omega
 have du:(t.put j).1.dummies = #[]:=by
  show(if ON.has t.dummies j=true then _ else t.dummies)=_
  rw[T.du];rfl
 refine⟨⟨T.m,vo T.so hj,?_,du,?_⟩,rfl,rfl,rfl,sz,by show OU t.place j<=_;omega⟩
 ·intro x hx
  have hx:x∈(Pb t.place (OU t.place j) j).toList:=hx
  rw[e,il] at hx
  rcases Ou.mp hx with h | h
  ·exact T.le x (List.mem_of_mem_take h)
  ·rcases NV.mp h with rfl | h
   ·exact hm
   ·exact T.le x (List.mem_of_mem_drop h)
 ·show(Pb t.place (OU t.place j) j).size<=t.mask
  omega
structure Gd (bt) (t) (n):Prop where
 tb:Tb t
 sz:t.place.size=n
 led:t.led = !bt
 pl:t.plain=true
 rng:(t.mask=7/\n<=4)\/(t.mask=31/\5<=n/\n<=18)\/(t.mask=127/\19<=n/\n<=76)\/(t.mask=511/\77<=n/\n<=306)
theorem Gd.fits (g:Gd bt t n):t.fits n=true:=by
 unfold ON.fits TM
 rw[g.sz,g.tb.du]
 have:=g.tb.sz
 rw[g.sz] at this
 simp_all
def Ic (bt:Bool):Gd bt (.fresh 0 0 (!bt)) 0:=⟨⟨.inl rfl,by simp[Tq],by simp[Tq],rfl,by simp[Tq]⟩,rfl,rfl,rfl,.inl ⟨rfl,by omega⟩⟩
structure Pre (bt) (t) (n):Prop where
 tb:Tb t
 sz:t.place.size=n
 led:t.led = !bt
 pl:t.plain=true
 fits:t.fits n=true
 no:t.tooFull=false->Gd bt t n
 yes:t.tooFull=true->∃m,Sd (RE n)=m+1/\m<=511/\∀hs:Array Int,hs.size=n->∃t' order,t.relaid hs (RE n)=some (t',order)/\Gd bt t' n/\order.toList.Perm (NQ n)
def HL (g:Gd bt t n) (hn:n<306) (hj:j∉t.place.toList) (hm:j<=t.mask):Pre bt (t.put j).1 (n+1)/\(t.put j).2<=n:=by
 have hs:t.place.size+1<=t.mask:=by rw[g.sz];rcases g.rng with h | h | h | h<;>omega
 obtain⟨T,e1,e2,e3,e4,e5⟩:=GV g.tb hj hm hs
 rw[g.sz] at e4 e5
 have ft:(t.put j).1.fits (n+1)=true:=by
  unfold ON.fits TM
  have:=T.sz
  rw[e4] at this
  rw[e4,T.du];simp_all
 have tf:(t.put j).1.tooFull=decide ((n+1)*5 ≥ t.mask*3):=by
  unfold ON.tooFull TM
  rw[e4,T.du,e1];simp
 refine⟨⟨T,e4,by rw[e2];exact g.led,by rw[e3];exact g.pl,ft,fun c=>⟨T,e4,by rw[e2];exact g.led,by rw[e3];exact g.pl,?_⟩,fun c=>?_⟩,e5⟩
 ·rw[tf] at c
  have c:=of_decide_eq_false c
  rcases g.rng with h | h | h | h
  ·omega
  ·omega
  ·omega
  omega
 ·rw[tf] at c
  have c:=of_decide_eq_true c
  have key:∀m,okM m->Sd (RE (n+1))=m+1->m<=511->n+1<=m->((m=7/\n+1<=4)\/(m=31/\5<=n+1/\n+1<=18)\/(m=127/\19<=n+1/\n+1<=76)\/(m=511/\77<=n+1/\n+1<=306)) →
    ∃m,Sd (RE (n+1))=m+1/\m<=511/\∀hs:Array Int,hs.size=n+1->∃t' order,(t.put j).1.relaid hs (RE (n+1))=some (t',order)/\Gd bt t' (n+1)/\order.toList.Perm (NQ (n+1)):=by
   intro m om hsz h5 hle hr
   refine⟨m,hsz,h5,fun hs hh=>?_⟩
   unfold ON.relaid
   rw[hsz]
   obtain⟨t',order,a1,a2,a3,a4,a5,a6,a7⟩:=Eo om hs (by omega)
   rw[hh] at a6 a7
   exact⟨t',order,a1,⟨a2,a6,by rw[a4,e2];exact g.led,by rw[a5,e3];exact g.pl,by simp_all⟩,a7⟩
  rcases g.rng with h | h | h | h
  ·have:n+1=5:=by omega
   exact key 31 (.inr (.inl rfl)) (by rw[this];decide) (by omega) (by omega) (.inr (.inl ⟨rfl,by omega,by omega⟩))
  ·have:n+1=19:=by omega
   exact key 127 (.inr (.inr (.inl rfl))) (by rw[this];decide) (by omega) (by omega) (.inr (.inr (.inl ⟨rfl,by omega,by omega⟩)))
  ·have:n+1=77:=by omega
   exact key 511 (.inr (.inr (.inr rfl))) (by rw[this];decide) (by omega) (by omega) (.inr (.inr (.inr ⟨rfl,by omega,by omega⟩)))
  omega
end L2.ST
namespace L2.ST
open PySem PySem.Spec PyProof.Rows
noncomputable abbrev byT (w:Oe):Bool:=w.params.followText "set-order"
def IG (w:Oe) (h:Heap) (S:Addr) (es:Array (Int × NI)):Prop:=∃o ep t,h.get? S=some o/\o.ExactSet/\o.data=.set es ep t/\Gd (byT w) t es.size
def CI (xs) (p) (x:α):(Pb xs p x).size=xs.size+1:=by
 have:=(ON.insertAt_perm xs p x).length_eq
 simp_all
def Ac {α:Type}{es:Array α}{order:Array Nat} (p:order.toList.Perm (NQ es.size)):(order.filterMap (es[·]?)).toList.Perm es.toList:=by
 rw[Array.toList_filterMap]
 exact(p.filterMap _).trans (by rw[filterMap_getElem?_range])
section
variable {prog:NT}{w:Oe}{A:Oa}{E:NI->NM->Prop}{s:NM}{S:Addr}{es:Array (Int × NI)}
def yb {h:Heap} (ho:h.get? S=some o) (hd:o.data=.set es ep t) (es') (t') :
  (h.update S (Obj.putSet es' t')).get? S=some { o with data:=.set es' (ep+1) t' }:=by
 have:=Oy (Obj.putSet es' t') ho (by rw[putSet_of es' t' hd];rfl)
 rw[putSet_of es' t' hd] at this;omega
def s_ (h:n<=306):n<=sizeLine:=N4 h (by decide)
end
section
variable {prog:NT}{w:Oe}{A:Oa}{E:NI->NM->Prop}{s:NM}{S:Addr}{es:Array (Int × NI)}
abbrev TK (prog:NT) (w:Oe) (h:Heap) (ks:List Int) (a:Addr):Prop:=IsTupleKey (intKind prog w) h ks a
def HA (prog:NT) (w:Oe) (h:Heap) (es:List (Int × NI)) (x:List Int):Prop:=∀e∈es,∃ks a,e.2=.ref a/\TK prog w h ks a/\ks≠x
def HB (h:(intKind prog w).is k v=true):∃t,v=.int k t:=by
 cases v<;>simp[intKind,T5] at h
 simp_all
def items_int (h:ItemsAre (intKind prog w) ks vs):∀v∈vs,∃n t,v=.int n t:=by
 induction h with
 | nil=>simp
 | cons h1 _ ih=>
  intro v hv
  rcases NV.mp hv with rfl | hv
  ·obtain⟨t,e⟩:=HB h1;simp_all
  simp_all
def pY {ks:List Int}{a:Addr}{Q:Bool->NM->Prop} (hk:TK prog w s.heap ks a) (h:Q false s):wpAny (model prog w) A (ofAClassStatement 8 (.ref a)) Q E s:=by
 have hT:=hk.typeIs
 obtain⟨o,items,n,ho,_,hd,hi⟩:=hk
 unfold ofAClassStatement
 refine gV (QZ hT ?_)
 refine gV (NG ?_)
 refine gV (Sg ho hd ?_)
 refine gV ?_
 rw[<- Array.forIn_toList]
 refine SW _ (fun rest r s'=>r.1=none/\s'=s/\∀v∈rest,∃n t,v=.int n t) _ ?_ ?_ _ _ ⟨rfl,rfl,items_int hi⟩
 ·rintro v rest r s' ⟨hr,rfl,hall⟩
  obtain⟨n,t,rfl⟩:=hall v NO
  refine gV ?_
  refine NG ?_
  exact NG ⟨rfl,rfl,fun u hu'=>hall u (NH _ hu')⟩
 ·rintro⟨r1,r2⟩ s' ⟨hr,rfl,_⟩
  subst hr
  exact NG h
def D3 (hk:TK prog w s.heap x a) (hl:∀v∈l,∃ks b,v=.ref b/\TK prog w s.heap ks b) (h:Q false s):wpAny (model prog w) A (searchCouldBeSeen (.ref a) l) Q E s:=by
 refine gV ?_
 refine SW _ (fun rest r s'=>r.1=none/\s'=s/\∀v∈rest,∃ks b,v=.ref b/\TK prog w s.heap ks b) _ ?_ ?_ _ _ ⟨rfl,rfl,hl⟩
 ·rintro v rest r s' ⟨hr,rfl,hall⟩
  obtain⟨ks,b,rfl,hb⟩:=hall v NO
  have nx:=fun u hu'=>hall u (NH _ hu')
  refine Td (fun _=>NG ⟨rfl,rfl,nx⟩) fun _=>?_
  refine gV (wpAny_eqIsQuiet_tuple hk ?_)
  refine gV (wpAny_eqIsQuiet_tuple hb ?_)
  refine gV (pY hk ?_)
  refine gV (pY hb ?_)
  exact NG ⟨rfl,rfl,nx⟩
 ·rintro⟨r1,r2⟩ s' ⟨hr,rfl,_⟩
  subst hr
  exact NG h
def Kv (T:Tb t):t.gaveWay=false:=by
 unfold ON.gaveWay
 rcases T.m with h | h | h | h<;>rw[h]<;>rfl
def Fc (hk:TK prog w s.heap ks a) (h:Q true s):wpAny (model prog w) A (hashByValue 8 (.ref a)) Q E s:=by
 have hT:=hk.typeIs
 obtain⟨o,items,n,ho,_,hd,hi⟩:=hk
 refine gV (S5 hT F.slot_tuple_hash.lookup ?_)
 refine gV (Sg ho hd ?_)
 refine gV ?_
 show wpAny _ _ (forIn items _ _) _ _ s
 rw[<- Array.forIn_toList]
 refine SW _ (fun rest r s'=>r.1=none/\s'=s/\∀v∈rest,∃n t,v=.int n t) _ ?_ ?_ _ _ ⟨rfl,rfl,items_int hi⟩
 ·rintro v rest r s' ⟨hr,rfl,hall⟩
  obtain⟨n,t,rfl⟩:=hall v NO
  refine gV ?_
  refine NG ?_
  exact NG ⟨rfl,rfl,fun u hu'=>hall u (NH _ hu')⟩
 ·rintro⟨r1,r2⟩ s' ⟨hr,rfl,_⟩
  subst hr
  exact NG h
def zN {x:List Int}{a:Addr}{h:Int}{o:Obj}{ep:Nat}{t:ON}{Q:SetFound->NM->Prop} (ho:s.heap.get? S=some o) (hd:o.data=.set es ep t) (T:Tb t) (hsz:t.place.size=es.size) (hf:t.fits es.size=true) (hu:A.units<cLine)
  (hk:TK prog w s.heap x a) (hes:HA prog w s.heap es.toList x) (hQ:∀j,j∉t.place.toList->j<=t.mask->Q (.free j false) s) :
  ∀k fuel stand,k<fuel->k<10*P8 t.mask->Rch t k (stand.getD (t.probeStart h))->wpAny (model prog w) A (setSearchFrom S (.ref a) h true fuel stand) Q E s:=by
 intro k
 induction k using Nat.strongRecOn with
 | _ k ih=>
  intro fuel stand hfu hk2 R
  cases fuel with
  | zero=>omega
  | succ fuel=>
   refine gV (Pr ho hd hf ?_)
   dsimp only
   rw[Kv T]
   simp only[Bool.false_eq_true,if_false]
   generalize hp:t.probe _ h (stand.getD (t.probeStart h))=mt
   have key:∀ha,t.probe ha h (stand.getD (t.probeStart h))=mt->_:=fun ha e=>(e ▸ Bx T ha h k (10*P8 t.mask) _ hk2 R:(∃j,mt=some (.empty j none)/\j∉t.place.toList/\j<=t.mask)\/(∃j i k' q',mt=some (.candidate j i q')/\t.slot j=.live i/\i<t.place.size/\ha i=h/\k'<k/\Rch t k' q'))
   rcases key _ hp with⟨j,rfl,j1,j2⟩ | ⟨j,i,k',q',rfl,j1,j2,_,j4,j5⟩
   ·exact NG (hQ j j1 j2)
   ·dsimp only
    have hi:i<es.size:=by omega
    obtain⟨ks,b,e1,e2,e3⟩:=hes es[i] (Array.getElem_mem_toList hi)
    have hei:es[i]?=some (es[i].1,.ref b):=by grind
    have rest:wpAny (model prog w) A (do
      let some (_,y):=es[i]? | unsupported "internal:set-entry"
      let equal ← holding [y] (eqBool y (.ref a))
      let (es',_,t') ← setState S
      if true&&equal then return SetFound.there none
      let some same:=t'.sameMemory t.moves t.mask | unsupported "set.changed-during-lookup:is-the-new-block-at-the-old-address"
      let still ← match (if same then t'.slot j else .empty) with
       | .live i'=>match es'[i']? with
        | some (_,y')=>do pure (if ← isSame y' y then some i' else none)
        | none=>pure none
       | _=>pure none
      match still with
      | none=>rule "set.search.anew"; setSearchFrom S (.ref a) h true fuel none
      | some i'=>if equal then return SetFound.there (some i') else setSearchFrom S (.ref a) h true fuel (some q')) Q E s:=by
     rw[hei]
     refine gV (N9 (wpAny_eqBool_tuple hu e2 hk ?_))
     rw[decide_eq_false e3]
     refine gV (Pr ho hd hf ?_)
     simp only[if_false]
     have sm:t.sameMemory t.moves t.mask=some true:=by unfold ON.sameMemory;simp
     rw[sm]
     simp only[if_true]
     rw[j1]
     dsimp only
     rw[hei]
     refine gV (wpAny_isSame_ref_self (gV (NG ?_)))
     exact ih k' j4 fuel (some q') (by omega) (by omega) j5
    refine Td (fun _=>?_) fun _=>?_
    ·refine gV (D3 hk (fun v hv=>?_) ?_)
     ·obtain⟨e,he,rfl⟩:=Ov.mp hv
      obtain⟨ks',b',q1,q2,_⟩:=hes e (by grind)
      grind
     assumption
    omega
end
section
variable {prog:NT}{w:Oe}{A:Oa}{E:NI->NM->Prop}{s:NM}{S:Addr}{es:Array (Int × NI)}
def DO (hS:IG w s.heap S es) (hn:es.size<306) (hu:A.units<cLine) (hk:TK prog w s.heap x a) (hes:HA prog w s.heap es.toList x)
  (h1:∀h' es',PC S s.heap h'->IG w h' S es'->es'.toList.Perm (es.toList++[(hs,.ref a)])->Q true { s with heap:=h' }) :
  wpAny (model prog w) A (setAddHashed S (.ref a) hs) Q E s:=by
 obtain⟨o,ep,t,ho,hex,hd,g⟩:=hS
 have hf:=g.fits
 refine N9 (gV (Pr ho hd hf ?_))
 dsimp only
 rw[show byScan (.ref a) es=false by rfl]
 obtain⟨k,k1,R⟩:=zJ g.tb hs
 refine gV (zN ho hd g.tb g.sz hf hu hk hes (fun j jn jl=>?_) k 100000 none ?_ (by omega) R)
 ·dsimp only
  refine gV (Pr ho hd hf ?_)
  obtain⟨P,pl⟩:=HL g hn jn jl
  have sz:(Pb es (t.put j).2 (hs,Ob a)).size=es.size+1:=CI _ _ _
  have pm:=ON.insertAt_perm es (t.put j).2 (hs,Ob a)
  rw[Sy] at pm
  generalize he1:Pb es (t.put j).2 (hs,Ob a)=es1 at sz pm
  generalize ht1:(t.put j).1=t1 at P
  rw[P.pl]
  refine gV (Fc hk ?_)
  simp only[if_true]
  refine gV (wpAny_storeSet_of ho hd ?_ (s_ (by omega)))
  have e1:=yb ho hd es1 t1
  by_cases c:t1.tooFull=true
  ·rw[c]
   obtain⟨m,m1,m2,q⟩:=P.yes c
   obtain⟨t',order,a1,a2,a3⟩:=q (es1.map (·.1)) (by simp_all)
   rw[<- sz] at a3
   have pm2:=Ac a3
   have sz2:(order.filterMap (es1[·]?)).size=es.size+1:=by rw[<- NX,pm2.length_eq,NX,sz]
   refine gV ?_
   refine gV (Pr e1 rfl (by rw[sz];exact P.fits) ?_)
   dsimp only
   rw[if_neg (by rw[m1];have:512<=sizeLine:=by decide
                 omega)]
   rw[a1]
   show wpAny _ _ ((if ((order.filterMap (es1[·]?)).size != es1.size)=true then unsupported "internal:set-table-lost-an-element" else pure PUnit.unit >>= fun _=>pure (order.filterMap (es1[·]?),t')) >>= _) _ _ _
   rw[if_neg (by simp_all)]
   refine gV (gV (NG (NG ?_)))
   dsimp only
   refine wpAny_storeSet_of e1 rfl ?_ (s_ (by omega))
   exact NG (h1 _ _ ((Pp _ _ _).trans (Pp _ _ _)) ⟨_,_,t',yb e1 rfl _ t',hex,rfl,by simp_all⟩ (pm2.trans pm))
  ·rw[Bool.not_eq_true] at c
   rw[c]
   exact NG (h1 _ es1 (Pp _ _ _) ⟨_,_,t1,e1,hex,rfl,by rw[sz];exact P.no c⟩ pm)
 ·have:t.mask<=511:=by rcases g.tb.m with h | h | h | h<;>omega
  unfold P8 at k1
  omega
end
section
variable {prog:NT}{w:Oe}{A:Oa}{R:Result->NM->Prop}{I:Addr}{fp wr:List Addr}{n:Nat}{P:Nat->NI->Prop}{St:Nat->Heap->Prop}
def Ej (W:Ur prog w A.in1 I fp wr n P St) (S) (hSf:S∉fp) (J:Nat->Heap->Prop)
  (keep:∀i h h',J i h->(∀b o,b∉wr->h.get? b=some o->h'.get? b=some o)->J i h')
  (step:∀i v s Q E , i<n->P i v->J i s.heap->(∀b h' tk,PC S s.heap h'->J (i+1) h'->Q b { s with heap:=h',toks:=tk })->wpAny (model prog w) A.in1 (setAdd S v) Q E s) :
  ∀k i s , n - i=k->i<=n->St i s.heap->J i s.heap →
   (∀h' tk,(∀b o,b∉S::wr->s.heap.get? b=some o->h'.get? b=some o)->J n h'->R (.ok (.ret .none)) { s with heap:=h',toks:=tk }) →
   codeAny (model prog w) A (.builtin "set.update.loop" ⟨[.ref S,.ref I],[]⟩) R s:=by
 intro k
 induction k with
 | zero=>
  intro i s hk hi hst hJ hR
  have hin:i=n:=by omega
  subst hin
  refine PN F.entry_set_update_loop ?_
  rw[RW Rm _]
  refine gV (W.done s _ _ hst fun h' tk hm=>?_)
  exact NG (hR _ _ (fun b o hb e=>hm b o (fun z=>hb (NH _ z)) e) (keep _ _ _ hJ hm))
 | succ k ih=>
  intro i s hk hi hst hJ hR
  have hlt:i<n:=by omega
  refine PN F.entry_set_update_loop ?_
  rw[RW Rm _]
  refine gV (W.item i s _ _ hlt hst fun v h' tk hP hst' hm=>?_)
  refine gV (N9 (step i v _ _ _ hlt hP (keep _ _ _ hJ hm) fun b h2 tk2 sb J2=>?_))
  refine NG ⟨plainId_quiet Rm _,ih (i+1) _ (by omega) hlt (W.frame _ _ _ hst' fun b hb o e=>?_) J2 fun h3 tk3 m3 J3=>?_⟩
  ·rw[sb.2 b (fun z:b=S=>hSf (z ▸ hb))];exact e
  ·refine hR h3 tk3 (fun b o hb e=>m3 b o hb ?_) J3
   rw[sb.2 b (fun z:b=S=>hb (by simp_all))]
   simp_all
end
def Hy (a)
  (h:Q₁ (.ref s.heap.objs.size) { s with heap:=s.heap.push { cls:=.type "set", dict:=none,data:=.set #[] 0 (.fresh 0 0 (!byT w)) } }) :
  codeAny (model prog w) A (.call (.builtin "set.__new__") ⟨[.type "set", a],[]⟩) (wants Q₁ E) s:=by
 refine R5 ?_
 refine gV (SI (F.newCall_set_1 a) (NG ⟨plainId_quiet F.plain_set_new _,PN F.entry_set_new ?_⟩))
 unfold Ow.«set.__new__» Ow.Frozenset.newClass
 have hsub:=sub_set_self
 wp_walk
 refine Qo (NG ?_)
 refine gV (wpAny_alloc (NG ?_))
 exact NG h
noncomputable abbrev n8 (w:Oe):Obj:={ cls:=.type "set", dict:=none,data:=.set #[] 0 (.fresh 0 0 (!byT w)) }
structure Src (prog) (w) (T) (a) (n) (P) (OK:Heap->Prop):Prop where
 obj:∀h,OK h->∃o,h.get? a=some o/\o.cls=.type T
 keep:∀h h':Heap,OK h->(∀o,h.get? a=some o->h'.get? a=some o)->OK h'
 iter:∀A s , A.handled=none->OK s.heap->∃oI St,
  (∀E Q , Q (.ref s.heap.objs.size) { s with heap:=s.heap.push oI }->wpAny (model prog w) A (pyIter (.ref a)) Q E s) ∧
  (∀A':Oa,A'.handled=none->Ur prog w A' s.heap.objs.size [s.heap.objs.size,a] [s.heap.objs.size] n P St)/\St 0 (s.heap.push oI)
 s1:isSubtype (.type T) (.type "set")=pure false
 s2:isSubtype (.type T) (.type "frozenset")=pure false
 nd:(Si T == Si "dict")=false
set_option maxHeartbeats 3200000 in
def G0 {prog:NT}{w:Oe}{B:Oa}{Er:NI->NM->Prop}{z:NM}{T:String}{a:Addr}{n:Nat}{P:Nat->NI->Prop}{OK:Heap->Prop}{Q:NI->NM->Prop} (K:Src prog w T a n P OK)
  (hh:B.handled=none) (hok:OK z.heap) (J:Nat->Heap->Prop) (j0:∀h,h.get? z.heap.objs.size=some (n8 w)->(∀b o,z.heap.get? b=some o->h.get? b=some o)->J 0 h)
  (keep:∀i h h',J i h->(∀b o,b≠z.heap.objs.size+1->h.get? b=some o->h'.get? b=some o)->J i h')
  (step:∀(A:Oa) i v (s:NM) (Q:Bool->NM->Prop) (E:NI->NM->Prop),A.units<=B.units+20->i<n->P i v->J i s.heap->(∀b h' tk,PC z.heap.objs.size s.heap h'->J (i+1) h'->Q b { s with heap:=h',toks:=tk })->wpAny (model prog w) A (setAdd z.heap.objs.size v) Q E s)
  (fin:∀(g':Heap) (tk:Nat),J n g'->(∀b o,b<z.heap.objs.size->z.heap.get? b=some o->g'.get? b=some o)->Q (.ref z.heap.objs.size) { z with heap:=g',toks:=tk }) :
  wpAny (model prog w) B (call (.type "set") [.ref a]) Q Er z:=by
 obtain⟨_,_,_⟩:=QC.mro
 have:=QC.made
 have:=QC.sub
 refine QF (R5 ?_)
 show wpAny _ _ (callAny (.type "set") _) _ _ _
 refine NG ⟨Qv _ (by decide +kernel),PN F.entry_type_call ?_⟩
 rw[Oa.under_plain (weight_type_call_type "set" [.ref a] []) rfl]
 have:=QC.notType
 have:=QC.canCreate
 have:=F.typeCall_set_1 (.ref a)
 repeat (any_goals (first | assumption | wp_step))
 refine PF (Hy (.ref a) (E:=Er) (Q₁:=fun v y=>v=.ref z.heap.objs.size/\y={ z with heap:=z.heap.push (n8 w) }) ⟨rfl,rfl⟩) fun r y hr=>?_
 cases r with
 | error e=>exact hr
 | ok fl=>
  cases fl with
  | ret v=>
   obtain⟨rfl,rfl⟩:=hr
   have hS:(z.heap.push (n8 w)).get? z.heap.objs.size=some (n8 w):=NN _ rfl
   have hT:NM.TypeIs { z with heap:=z.heap.push (n8 w) } (.ref z.heap.objs.size) "set" := ⟨_,hS,rfl⟩
   have:=QC.init.lookup
   have:=QC.init.bind (.ref z.heap.objs.size)
   repeat (any_goals (first | assumption | wp_step))
   refine PF (QM (R:=wants (fun r y=>r=.none/\∃g' tk,y={ z with heap:=g',toks:=tk }/\J n g' ∧
     (∀b o,b<z.heap.objs.size->z.heap.get? b=some o->g'.get? b=some o)) Er) QC.init.plain F.entry_set_init (check_set_init_1 hT ?_)) fun r₂ y₂ hr₂=>?_
   ·obtain⟨ol,hol,hcl⟩:=K.obj _ hok
    have hlS:a<z.heap.objs.size:=NJ hol
    obtain⟨oc,od,oda,osl⟩:=ol
    simp only at hcl
    subst hcl
    have hol':(z.heap.push (n8 w)).get? a=some { cls:=.type T,dict:=od,data:=oda,slots:=osl }:=NF _ hol
    have:=K.s1
    have:=K.s2
    have:=K.nd
    have ok1:OK (z.heap.push (n8 w)):=K.keep _ _ hok fun o e=>NF _ e
    unfold Ow.«set.__init__» noKeywords Ow.Frozenset.updateFrom
    generalize hPI:pyIter=PI
    wp_walk
    subst hPI
    obtain⟨oI,St,hit,W,st⟩:=K.iter B.in1.in1 { z with heap:=z.heap.push (n8 w) } hh ok1
    refine hit _ _ ?_
    refine gV (Tn ?_)
    have sz:(z.heap.push (n8 w)).objs.size=z.heap.objs.size+1:=Heap.size_push _ _
    have W':=W B.in1.in1.in1 hh
    rw[show({ z with heap:=z.heap.push (n8 w) }:NM).heap.objs.size=z.heap.objs.size+1 from sz] at W'
    show codeAny _ _ (.builtin "set.update.loop" ⟨[.ref z.heap.objs.size,.ref (z.heap.push (n8 w)).objs.size],[]⟩) _ _
    rw[sz]
    refine Ej W' z.heap.objs.size ?hSf J (fun i h h' j k=>keep i h h' j fun b o hb e=>k b o (by simpa using hb) e) (fun i v s Q E hi hp hj hq=>step _ i v s Q E ?un hi hp hj hq) (n - 0) 0 _ (by omega) (OI _) st ?hJ0 ?hR
    case hSf=>simp only[NV,List.not_mem_nil,or_false,not_or];exact⟨NU (P2 _),Pu hlS⟩
    case un=>show B.units+3<=_;omega
    case hJ0=>exact j0 _ (NF _ hS) fun b o e=>NF _ (NF _ e)
    case hR=>
     intro h' tk hm hJ
     show wpAny _ _ _ _ _ _
     refine NG ?_
     show wpAny _ _ (ret OS) _ _ _
     refine NG ⟨rfl,h',tk,rfl,hJ,fun b o hb e=>hm b o ?_ (NF _ (NF _ e))⟩
     simp only[NV,List.not_mem_nil,or_false,not_or]
     exact⟨NU hb,NU (SD hb)⟩
   ·cases r₂ with
    | error e=>exact hr₂
    | ok fl₂=>
     cases fl₂ with
     | ret r=>
      obtain⟨rfl,g',tk,rfl,hS',hk'⟩:=hr₂
      repeat (any_goals (first | assumption | wp_step))
      exact fin _ _ hS' hk'
     | _=>exact hr₂.elim
  | _=>exact hr.elim
theorem xR {α:Type} (next:Nat->Nat):∀(f k:Nat) (l:List α) (out:Array α),l.length=f->(TZ next f k l out).toList.Perm (out.toList++l)
 | 0,k,l,out,h=>by
  have:l=[]:=Rl.mp h
  subst this
  unfold TZ;simp
 | f+1,k,l,out,h=>by
  unfold TZ
  have hl:next k % l.length<l.length:=Sz _ (by omega)
  rw[N0 hl]
  refine(xR next f (k+1) _ _ (by grind)).trans ?_
  rw[Sy,OX]
  refine S_.append_left _ ?_
  generalize next k % l.length=i at hl
  clear h
  induction l generalizing i with
  | nil=>grind
  | cons a r ih=>
   cases i with
   | zero=>simp
   | succ i=>
    exact(S_.swap _ _ _).trans ((ih i (by simp_all)).cons a)
def Ae (next) (xs:Array α):(pickOrder next xs).toList.Perm xs.toList:=by
 unfold pickOrder
 simpa using xR next xs.size 0 xs.toList #[] (by simp)
noncomputable def gp (w:Oe) (S:Addr) (ep:Nat) (es:Array (Int × NI)):Array (Int × NI):=if byT w then pickOrder (w.params.setOrder S ep) es else es
def pN (w) (S) (ep) (es):(gp w S ep es).toList.Perm es.toList:=by
 unfold gp;split
 ·exact Ae _ _
 rfl
noncomputable def plF (t:ON):Nat->Nat
 | 0=>0
 | j+1=>t.place.getD j 0+1
noncomputable def slW (w:Oe) (t:ON) (j:Nat):Nat:=if byT w then 0 else plF t j
def wJ (T:Tb t) (hj:j<=t.place.size):OU t.place (plF t j)=j:=by
 have key:∀x,(∀i (h:i<t.place.toList.length),i<j->t.place.toList[i]<x)->(∀i (h:i<t.place.toList.length),j<=i->x<=t.place.toList[i])->OU t.place x=j:=by
  intro x a b
  obtain⟨r,e,hr,a',b'⟩:=jm x T.so
  rw[e]
  rcases Nat.lt_trichotomy r j with c | c | c
  ·grind
  ·exact c
  grind
 cases j with
 | zero=>exact key 0 (fun i h c=>by omega) (fun i h c=>OI _)
 | succ j=>
  have hl:j<t.place.toList.length:=by grind
  have e:t.place.getD j 0=t.place.toList[j]:=getD_at (by omega)
  show OU t.place (t.place.getD j 0+1)=j+1
  refine key _ (fun i h c=>?_) (fun i h c=>?_)
  ·rcases RK i j with d | d
   ·have:=NW.mp T.so i j h hl d;omega
   grind
  ·have:=NW.mp T.so j i hl h (by omega);omega
def slot_next:Slot "set_iterator" "__next__" "set_iterator.__next__" :=
 .of (owner:="set_iterator") (n:="__next__") (by rfl) (by rfl) (by rfl) (by rfl)
  (by exact .inl (by rfl)) (by rfl)
def qk:Slot "set_iterator" "__iter__" "set_iterator.__iter__" :=
 .of (owner:="set_iterator") (n:="__iter__") (by rfl) (by rfl) (by rfl) (by rfl)
  (by exact .inl (by rfl)) (by rfl)
def entry_next:entryFor table "set_iterator.__next__" = some Ow.«set_iterator.__next__»:=entryFor_of_tree (by rfl)
def t6:entryFor table "set_iterator.__iter__" = some Ow.«dict_keyiterator.__iter__»:=
 entryFor_alias (id':="dict_keyiterator.__iter__") (by kernel_rfl) rfl (by decide +kernel) (by kernel_rfl)
def vZ:entryFor table "set.__iter__" = some Ow.«frozenset.__iter__»:=
 entryFor_alias (id':="frozenset.__iter__") (by kernel_rfl) rfl (by decide +kernel) (by kernel_rfl)
def tQ:Manifest.owners.lookup (String.ofList ['r','o','t','a','r','e','t','i','_','t','e','s'].reverse)=some Manifest.sig_set_iterator:=by kernel_rfl
def args_next (a):argsOk "set_iterator.__next__" ⟨[a],[]⟩:=by
 unfold argsOk;rw[signature?_of (n:=['_','_','t','x','e','n','_','_']) (by rfl) tQ];rfl
def zt (a):argsOk "set_iterator.__iter__" ⟨[a],[]⟩:=by
 unfold argsOk;rw[signature?_of (n:=['_','_','r','e','t','i','_','_']) (by rfl) tQ];rfl
def eP (h:Heap) (S:Addr) (es:Array (Int × NI)) (ep:Nat) (t:ON):Prop:=∃o,h.get? S=some o/\o.ExactSet/\o.data=.set es ep t
def tH (h:Heap) (I S:Addr) (sl i n ep:Nat):Prop:=h.get? I=some { cls:=.type "set_iterator", data:=.fields #[rawInt sl,rawInt i,.ref S,rawInt n,rawInt ep] }
section
variable {prog:NT}{w:Oe}{A:Oa}{E:NI->NM->Prop}{s:NM}{S I:Addr}{es:Array (Int × NI)}{ep:Nat}{t:ON}
def eP.typeIs (x:eP s.heap S es ep t):s.TypeIs (.ref S) "set" := let ⟨o,a,b,_⟩:=x;⟨o,a,b.1⟩
def eP.keep {h h':Heap} (x:eP h S es ep t) (k:∀o,h.get? S=some o->h'.get? S=some o):eP h' S es ep t:=let ⟨o,a,b⟩:=x;⟨o,k o a,b⟩
def B3 (g:Gd (byT w) t es.size) (x:eP s.heap S es ep t) (h:Q false s):wpAny (model prog w) A (setDrawn S) Q E s:=by
 obtain⟨o,a,b,c⟩:=x
 refine gV (Pr a c g.fits ?_)
 refine gV ?_
 refine gV (Qo (NG ?_))
 show wpAny _ _ (pure (!_&&(!t.plain&&_))) _ _ _
 rw[g.pl]
 simp only[Bool.not_true,Bool.false_and,Bool.and_false]
 exact NG h
def B2 (g:Gd (byT w) t es.size) (x:eP s.heap S es ep t)
  (hQ:Q (.ref s.heap.objs.size) { s with heap:=s.heap.push { cls:=.type "set_iterator", data:=.fields #[rawInt 0,rawInt 0,.ref S,rawInt es.size,rawInt ep] } }):wpAny (model prog w) A (pyIter (.ref S)) Q E s:=by
 have T:=x.typeIs
 refine Sv T F.slot_set_iter (OA F.slot_set_iter T vZ ?_ (F.args_set_iter_1 _))
 obtain⟨o,a,b,c⟩:=id x
 unfold Ow.«frozenset.__iter__» Ow.Frozenset.slot0 slotArgs
 simp only[bind_assoc]
 refine gV (NG ?_)
 refine gV (NG ?_)
 refine gV (gV (wpAny_setEntries_of a c g.fits (NG ?_)))
 refine gV (B3 g x ?_)
 refine gV (NG ?_)
 refine gV (wpAny_setEpoch_of a c g.fits ?_)
 refine gV (Of (NG ⟨_,rfl,"set_iterator", _,⟨_,NN _ rfl,rfl⟩,slot_next.lookup,?_⟩))
 exact hQ
def yz (g:Gd (byT w) t es.size) (x:eP s.heap S es ep t){j:Nat} (hj:j<=es.size){Q:Option (NI × Nat)->NM->Prop}
  (h:Q (((gp w S ep es)[j]?).map fun e=>(e.2,slW w t (j+1))) s):wpAny (model prog w) A (setNext S (slW w t j) j ep) Q E s:=by
 obtain⟨o,a,b,c⟩:=id x
 refine gV (Pr a c g.fits ?_)
 refine gV ?_
 refine gV (Qo (NG ?_))
 unfold gp slW at h
 by_cases hb:byT w=true
 ·rw[if_pos hb] at h
  show wpAny _ _ (if byT w=true then _ else _) _ _ _
  rw[if_pos hb,if_neg (by simp)]
  refine gV ?_
  refine gV (Pr a c g.fits ?_)
  refine gV ?_
  refine gV (Qo (NG ?_))
  show wpAny _ _ (if byT w=true then _ else _) _ _ _
  rw[if_pos hb]
  refine gV (Qo (NG (NG ?_)))
  unfold slW
  simp only[if_pos hb] at h ⊢
  exact h
 ·simp only[if_neg hb] at h
  show wpAny _ _ (if byT w=true then _ else _) _ _ _
  rw[if_neg hb]
  show wpAny _ _ (if (!t.plain&&decide (es.size > 1))=true then _ else _) _ _ _
  rw[g.pl]
  show wpAny _ _ ((if (!t.led&&!es.isEmpty)=true then unsupported "set:maker-not-led" else pure PUnit.unit) >>= _) _ _ _
  rw[show t.led=true by rw[g.led];simp_all]
  have e:OU t.place (slW w t j)=j:=by
   unfold slW;rw[if_neg hb];exact wJ g.tb (by rw[g.sz];exact hj)
  rw[e]
  refine NG ?_
  cases q:es[j]? with
  | none=>simp_all
  | some v=>
   rw[q] at h
   have hl:j<t.place.size:=by rw[g.sz];grind
   rw[Pt hl]
   simp only[plF,Array.getD,hl] at h
   exact h
def kg:(gp w S ep es).size=es.size:=by rw[<- NX,(pN w S ep es).length_eq,NX]
def yD (g:Gd (byT w) t es.size) (hi:tH s.heap I S (slW w t j) j es.size ep) (x:eP s.heap S es ep t)
  (h:wpAny (model prog w) A (do
   match ← setNext S (slW w t j) j ep with
   | some (x,next)=>
    setField (.ref I) 0 (rawInt next)
    setField (.ref I) 1 (rawInt ((j:Int)+1))
    ret x
   | none=>setField (.ref I) 2 .none;raiseNew (← newExc (.type "StopIteration") [])) P E s) :
  wpAny (model prog w) A (Ow.«set_iterator.__next__» ⟨[.ref I],[]⟩) P E s:=by
 obtain⟨o,a,b,c⟩:=id x
 unfold Ow.«set_iterator.__next__» slotArgs
 refine gV (NG ?_)
 refine gV (To hi rfl ?_)
 refine gV (wpAny_setEntries_of a c g.fits ?_)
 rw[if_neg (by simp)]
 exact h
end
section
variable {prog:NT}{w:Oe}{A:Oa}{E:NI->NM->Prop}{s:NM}{S I:Addr}{es:Array (Int × NI)}{ep:Nat}{t:ON}
def tH.typeIs (hi:tH s.heap I S sl j n ep):s.TypeIs (.ref I) "set_iterator" := ⟨_,hi,rfl⟩
def next_item (g:Gd (byT w) t es.size) (hi:tH s.heap I S (slW w t j) j es.size ep) (x:eP s.heap S es ep t) (hj:j<es.size)
  (hQ:∀h' e,(gp w S ep es)[j]?=some e->tH h' I S (slW w t (j+1)) (j+1) es.size ep->PC I s.heap h'->Q (some e.2) { s with heap:=h' }):wpAny (model prog w) A (pyNext (.ref I)) Q E s:=by
 refine gV (Ql (OH hi.typeIs slot_next (OA slot_next hi.typeIs entry_next (yD g hi x ?_) (args_next _))))
 have hl:j<(gp w S ep es).size:=by rw[kg];exact hj
 refine gV (yz g x (RH hj) ?_)
 rw[Pt hl]
 refine gV (Se hi (by simp) fun h1 e1 s1=>?_)
 refine gV (Se e1 (by simp) fun h2 e2 s2=>?_)
 refine NG ⟨_,rfl,NG (hQ h2 _ (Pt hl) ?_ (s1.trans s2))⟩
 exact e2
def next_end (hh:A.handled=none) (g:Gd (byT w) t es.size) (hi:tH s.heap I S (slW w t j) j es.size ep) (x:eP s.heap S es ep t) (hj:j=es.size)
  (hQ:∀h',T9 I s.heap h'->Q none { s with heap:=h' }):wpAny (model prog w) A (pyNext (.ref I)) Q E s:=by
 refine gV (Ql (OH hi.typeIs slot_next (OA slot_next hi.typeIs entry_next (yD g hi x ?_) (args_next _))))
 refine gV (yz g x (by omega) ?_)
 rw[Qr (by rw[kg];omega)]
 refine gV (Se hi (by simp) fun h1 e1 s1=>?_)
 show wpAny _ _ (newExc (.type "StopIteration") [] >>= _) _ _ _;refine gV ?_
 refine gV (Of (gV (SI (by rfl) (Of ?_ (by size_fits)))) (by size_fits))
 simp only[raiseNew];refine gV (TH ?_);rw[show A.in1.handled=none from hh]
 refine gV (NG (T_ ?_));refine gV (SU ⟨_,NN _ rfl,rfl⟩ isSubtype_stop ?_)
 exact NG (hQ _ ((s1.extBut.push _).push _))
def zB (hh:A.handled=none) (I) (ne:S≠I) (g:Gd (byT w) t es.size):Ur prog w A I [I,S] [I] es.size (fun j v=>∃e,(gp w S ep es)[j]?=some e/\v=e.2) (fun j h=>tH h I S (slW w t j) j es.size ep/\eP h S es ep t) where
 sub:=fun b hb=>by simp_all
 frame:=fun _ _ _ st hk=>⟨hk I (by simp) _ st.1,st.2.keep fun o e=>hk S (by simp) o e⟩
 item:=fun j s Q E hj st hQ=>next_item g st.1 st.2 hj fun h' e he a b=>hQ _ h' s.toks ⟨e,he,rfl⟩ ⟨a,st.2.keep fun o e=>b.extBut S o ne e⟩ fun c o hc e=>b.extBut c o (fun z=>hc (by simp[z])) e
 done:=fun s Q E st hQ=>next_end hh g st.1 st.2 rfl fun h' a=>hQ h' s.toks fun c o hc e=>a c o (fun z=>hc (by simp[z])) e
 self:=fun _ _ _ _ st hQ=>Sv st.1.typeIs qk (OA qk st.1.typeIs t6 (NG ⟨_,rfl,"set_iterator", _,st.1.typeIs,slot_next.lookup,hQ⟩) (zt _))
def A6 (hT:s.TypeIs (.ref S) "set") (h:Q false s):wpAny (model prog w) A (Ow.List.listLengthHint (.ref S)) Q E s:=by
 refine gV (S5 hT F.slot_set_len.lookup ?_)
 generalize hid:("set.__len__" : String)=id0
 wp_delta
 subst hid
 refine gV (SU (b:=true) hT (by rfl) ?_)
 refine Td (fun hab=>absurd hab (by decide)) (fun _=>?_)
 refine gV (QZ hT ?_)
 exact NG h
def eP.lt {h:Heap} (x:eP h S es ep t):S<h.objs.size:=let ⟨_,a,_⟩:=x;NJ a
def Dw (g:Gd (byT w) t es.size):Sh prog w "set" S S es.size (fun j v=>∃e,(gp w S ep es)[j]?=some e/\v=e.2) (fun h=>eP h S es ep t) where
 type:=fun _ x=>x.typeIs
 there:=fun _ x=>⟨x.lt,x.lt⟩
 keep:=fun _ _ x k=>x.keep fun o e=>k S (.inl rfl) o e
 notList:=by decide
 notTuple:=by decide
 hint:=fun _ _ _ _ x hq=>A6 x.typeIs hq
 iter:=fun _ s hh x=>⟨_,_,(fun _ _ hq=>B2 g x hq),zB hh _ (NU x.lt) g,⟨by
  have:slW w t 0=0:=by unfold slW;split<;>rfl
  unfold tH
  rw[this]
  exact NN _ rfl,x.keep fun o e=>NF _ e⟩⟩
end
section
variable {prog:NT}{w:Oe}{A:Oa}{E:NI->NM->Prop}{s:NM}
def uM {T:String}{r d:Addr}{n:Nat}{P:Nat->NI->Prop}{OK:Heap->Prop} (K:Sh prog w T r d n P OK) (hh:A.handled=none) (hok:OK s.heap) (hn:n<=sizeLine){Q:List NI->NM->Prop}
  (h:∀(h':Heap) tk (acc:Array NI),s.heap.objs.size<=h'.objs.size->(∀b o,s.heap.get? b=some o->h'.get? b=some o)->Us P acc n->Q acc.toList { s with heap:=h',toks:=tk }):wpAny (model prog w) A (collect (.ref r)) Q E s:=by
 refine gV (Tn (PN entry_proto_collect' ?_))
 refine gV (Ri (NG ⟨Qv _ (by simp),PN entry_list_iadd' ?_⟩))
 have hlt:=K.there _ hok
 rw[RW (show plainId "list.__iadd__" = true by decide +kernel) _]
 refine PySem.W.kdl_extend (R:=fun r s'=>match r with
  | .ok (.ret v)=>wpAny (model prog w) A (match v with
   | .ref a=>do
    match (← load a).data with
    | .seq xs _=>pure xs.toList
    | _=>unsupported "internal:collect"
   | _=>unsupported "internal:collect") Q E s'
  | .ok _=>False
  | .error e=>E e s') (s:={ s with heap:=s.heap.push (seqObj "list" #[] 0) }) K hh (K.keep _ _ hok fun b _ o e=>NF _ e) _ (Pu hlt.1) (Pu hlt.2) _ 0 (NN _ rfl) (fun h' tk acc c kp e hi=>?_) hn
 refine gV (Uc e ?_)
 exact NG (h h' tk acc (RH (NJ e)) (fun b o q=>kp b o (NU (NJ q)) (NF _ q)) hi)
def wQ {T:String}{r d:Addr}{n:Nat}{P:Nat->NI->Prop}{OK:Heap->Prop} (K:Sh prog w T r d n P OK) (hh:A.handled=none) (hok:OK s.heap) (hn:n<=sizeLine){Q:NI->NM->Prop}
  (h:∀(h':Heap) tk (acc:Array NI),s.heap.objs.size<=h'.objs.size->(∀b o,s.heap.get? b=some o->h'.get? b=some o)->Us P acc n →
   wpAny (model prog w) A.in1.in1 (Ow.«list.sort» ⟨[.ref h'.objs.size],[]⟩) (fun fin s'=>∃v,fin=.done (.ret v)/\Q (.ref h'.objs.size) s') E { s with heap:=h'.push (seqObj "list" acc.toList.toArray 0),toks:=tk }) :
  wpAny (model prog w) A (call (.builtin "sorted") [.ref r]) Q E s:=by
 refine Calls.call_function_entry kind_sorted plain_sorted entry_sorted (args_sorted1 _) ?_
 refine gV (NG ?_)
 refine gV (uM (A:=A.in1) K hh hok hn fun h' tk acc le kp hi=>?_)
 refine gV (Ri ?_ (by rw[NX,hi.1];exact hn))
 refine gV (N9 (OA slot_list_sort ⟨_,NN _ rfl,rfl⟩ entry_list_sort ?_ (args_list_sort _)))
 refine N6 (h h' tk acc le kp hi) (fun fin s' ⟨v,e,q⟩=>⟨v,e,NG ⟨_,rfl,q⟩⟩) fun _ _ x=>x
def yT (hi:Us (fun j v=>∃e,(gp w S ep es)[j]?=some e/\v=e.2) acc es.size):acc.toList.Perm (es.toList.map (·.2)):=by
 have e:acc.toList=(gp w S ep es).toList.map (·.2):=by
  apply Qi
  intro j
  rw[Oh,Oq,Oq]
  cases q:acc[j]? with
  | none=>
   have:(gp w S ep es)[j]?=none:=by
    rw[Array.getElem?_eq_none_iff] at q ⊢
    rw[kg,<- hi.1];exact q
   simp_all
  | some v=>
   obtain⟨e,h1,h2⟩:=hi.2 j v q
   simp_all
 rw[e]
 exact(pN w S ep es).map _
end
end L2.ST
namespace L2.FE
open PySem PySem.Spec PyProof.Rows L2.ST
section
variable {X:Cx}{g:GG}{ε:EE}{e:Expr}{es:List Expr}{pos pos1:Pos}{mr:MA}{K:ND}
def B8 {id T:String}{p q:Pos} (hc2:aV X (.builtin id) r2) (hc1:aV X (.type T) r1) (im:kF X.K g ε f (fun vs H Q=>r1 vs H (fun v H1=>r2 [v] H1 Q)))
  (hg:Gl X x) (hm:X.mg x=none) (hv:bootBuiltins x=some (.builtin id)) (hg1:Gl X y) (hm1:X.mg y=none) (hv1:bootBuiltins y=some (.type T)) (ha:PA X (e::es) (tMA X.K g ε mr)) (hn:x≠"__name__" := by decide) (hdb:(x == ("__debug__" : Str))=false:=by decide) (hn1:y≠"__name__" := by decide) (hdb1:(y == ("__debug__" : Str))=false:=by decide)
  (he1:starEach (e::es) X.env=(false,eval e X.env)::starEach es X.env:=by rfl) (hpl1:(backTo pos1 (starEach es X.env)).any (·.1)=false:=by rfl)
  (he:starEach [Expr.Call (.Name y q) (e::es) [] pos1] X.env=(false,eval (Expr.Call (.Name y q) (e::es) [] pos1) X.env)::starEach [] X.env:=by rfl) (hpl:(backTo pos (starEach [] X.env)).any (·.1)=false:=by rfl) :
  PE X (.Call (.Name x p) [.Call (.Name y q) (e::es) [] pos1] [] pos) (tM X.K g ε (ah f mr)):=
 PE.imp (gG hc2 hg hm hv (c4 (ik hc1 hg1 hm1 hv1 ha hn1 hdb1 he1 hpl1) gF he) hn hdb he hpl) fun _ _ _ t=>(vx (f:=f) im t :)
end
end L2.FE
namespace L2.ST
open PySem PySem.W PySem.Spec PyProof.Rows PySem.Calls L2.Srt L2.SM
section
variable {prog:NT}{w:Oe}{A:Oa}{E:NI->NM->Prop}{s:NM}{vs us:List NI}{xss:List (List Int)}{h h':Heap}
def Ao (p:vs.Perm us):∀{xss},Tps h us xss->∃yss,Tps h vs yss/\yss.Perm xss:=by
 induction p with
 | nil=>grind
 | cons x _ ih=>
  intro xss r
  cases r with
  | cons a b c d r=>
   obtain⟨yss,q,pm⟩:=ih r
   exact⟨_,.cons a b c d q,pm.cons _⟩
 | swap x y l=>
  intro xss r
  cases r with
  | cons a b c d r=>
   cases r with
   | cons a2 b2 c2 d2 r=>exact⟨_,.cons a2 b2 c2 d2 (.cons a b c d r),.swap _ _ _⟩
 | trans _ _ ih1 ih2=>
  grind
def zL (ho:s.heap.get? a=some (seqObj "list" vs.toArray n)) (hz:vs.length<=306) (r:Tps s.heap vs xss) (bd:∀xs∈xss,Bd xs/\xs.length<=20) (nd:(xss.map (kT 20)).Nodup) (ne:∀xs∈xss,xs≠[])
  (hP:∀out:List NI,out.Perm vs->out.Pairwise (fun x y=>kvH s.heap x<kvH s.heap y)->P (.done (.ret .none)) { s with heap:=sortedHeap s.heap a vs out.toArray }) :
  wpAny (model prog w) A (Ow.«list.sort» ⟨[.ref a],[]⟩) P E s:=by
 have len:=r.len
 by_cases h2:vs.length<2
 ·refine oy ho h2 (hP vs (.refl _) ?_)
  rcases vs with _ | ⟨x,_ | ⟨y,l⟩⟩
  ·simp
  ·simp
  grind
 ·have keep:∀b o,b≠a->s.heap.get? b=some o->(dM s.heap a vs).get? b=some o:=fun b o hb q=>EL hb q
  have ta:∀{us:List NI} {zss:List (List Int)},Tps s.heap us zss->Tps (dM s.heap a vs) us zss:=by
   intro us zss r
   induction r with
   | nil=>exact .nil
   | @cons b o k us' xs vs' xss' e1 e2 e3 e4 _ ih=>
    refine .cons (keep b o (fun z=>?_) e1) e2 e3 e4 ih
    grind
  have r1:=ta r
  obtain⟨fs,t,fl,fi⟩:=r1.i5 ne
  have kk:=List.map_inj_left.mp (r1.kv.trans r.kv.symm)
  refine oK ho (by omega) (by omega) ?_ (by rw[r1.kv];exact nd) (fun out pm sr=>hP out pm (Q3 (fun hx hy lt=>by grind) sr))
  refine kat_kind (T:=.type "int") t (by omega) (fun v hv=>?_) (by rfl) ?_
  ·obtain⟨x,tk,rfl⟩:=fi v hv
   exact .now
  ·rw[show(Si "int" != Si "tuple")=true by rfl]
   refine⟨rfl,fun x y hx hy C hc=>?_⟩
   obtain⟨a',oa,ka,ua,xa,e1,ga,da,ia,ma,va⟩:=r1.mem hx.1
   obtain⟨b,ob,kb,ub,xb,e2,gb,db,ib,mb,vb⟩:=r1.mem hy.1
   have hd:decide (kvH (dM s.heap a vs) x.1<kvH (dM s.heap a vs) y.1)=oZ xa xb:=by
    simp only[va,vb]
    exact(Bf 20 (bd _ ma).1 (bd _ mb).1 (bd _ ma).2 (bd _ mb).2).symm
   rw[hd] at hc
   rw[e1,e2]
   refine kat_lt ga da gb db (uE 0 ia ib ?_ hc)
   have l1:ua.size=xa.length:=by rw[<- ia.nums,NY,NX]
   have l2:ub.size=xb.length:=by rw[<- ib.nums,NY,NX]
   grind
theorem oh:∀{us:List NI}{xs:List Int},IntsAre us xs->PySem.ItemsAre (intKind prog w) xs us
 | _,_,.nil=>.nil
 | _,_,.cons n t r=>.cons (intKind_is _ _ _ _) (oh r)
def AZ (r:Tps h us xss):∀(i:Nat) v , us[i]?=some v->∃a xs,v=.ref a/\xss[i]?=some xs/\TK prog w h xs a:=by
 induction r with
 | nil=>simp
 | @cons a o k us xs vs xss e1 e2 e3 e4 _ ih=>
  intro i v e
  cases i with
  | zero=>
   simp at e
   subst e
   exact⟨a,xs,rfl,rfl,o,us,k,e1,e2,e3,oh e4⟩
  | succ i=>simp_all
def EG (a:Addr) (its:Array NI):Src prog w "list" a its.size (fun i v=>its[i]?=some v) (fun h=>h.IsList a its) where
 obj:=fun h ⟨o,a,b,_⟩=>⟨o,a,b⟩
 keep:=fun h h' ⟨o,a,b⟩ k=>⟨o,k o a,b⟩
 iter:=fun A s hh x=>⟨_,_,(fun E Q hq=>Su x hq),(fun A' hh'=>Ur.list hh' _ a (by obtain⟨o,e,_⟩:=x;exact NU (NJ e)) its),⟨⟨_,NN _ rfl,rfl,rfl⟩,by obtain⟨o,e,r⟩:=x;exact⟨o,NF _ e,r⟩⟩⟩
 s1:=F.sub_list_set
 s2:=F.sub_list_frozenset
 nd:=by decide
def WSt (w:Oe) (o:Obj) (us:List NI):Prop:=∃es ep t,o.ExactSet/\o.data=.set es ep t/\Gd (byT w) t es.size/\(es.toList.map (·.2)).Perm us
def Co {z:NM}
  (hh:B.handled=none) (hu:B.units+20<cLine) (ht:z.heap.IsList a its) (hi:Tps z.heap its.toList xss) (nd:xss.Nodup) (hb:its.size<=306)
  (fin:∀g' tk o,g'.get? z.heap.objs.size=some o->WSt w o its.toList->(∀b o,b<z.heap.objs.size->z.heap.get? b=some o->g'.get? b=some o)->Q (.ref z.heap.objs.size) { z with heap:=g',toks:=tk }) :
  wpAny (model prog w) B (call (.type "set") [.ref a]) Q Er z:=by
 have hl:=hi.len
 rw[NX] at hl
 refine G0 (EG a its) hh ht (fun i h=>(∀b o,b<z.heap.objs.size->z.heap.get? b=some o->h.get? b=some o)/\∃es,IG w h z.heap.objs.size es/\(es.toList.map (·.2)).Perm (its.toList.take i)) ?_ ?_ ?_ ?_
 ·intro h e k
  exact⟨fun b o _ q=>k b o q,#[],⟨_,_,_,e,⟨rfl,rfl,rfl⟩,rfl,Ic _⟩,by simp⟩
 ·rintro i h h' ⟨kp,es,⟨o,ep,t,e,r⟩,q⟩ k
  exact⟨fun b o hb e=>k b o (NU (SD hb)) (kp b o hb e),es,⟨o,ep,t,k _ o (NU (P2 _)) e,r⟩,q⟩
 ·rintro A i v s Q E hu' hi' hp ⟨kp,es,hS,pm⟩ hq
  have hit:its.toList[i]?=some v:=by simp_all
  have hi2:=hi.keeps fun b o q=>kp b o (NJ q) q
  obtain⟨b,xs,rfl,ex,tk⟩:=AZ hi2 i v hit
  have sz:es.size=i:=by
   have:=pm.length_eq
   grind
  have tu:HA prog w s.heap es.toList xs:=fun e he=>by
   have m:=pm.mem_iff.mp (Ov.mpr ⟨e,he,rfl⟩)
   obtain⟨j,hj,ej⟩:=Pq m
   rw[OT] at hj
   have:its.toList[j]?=some e.2:=by
    grind
   obtain⟨b',ys,e1,e2,e3⟩:=AZ hi2 j e.2 this
   refine⟨ys,b',e1,e3,fun z=>?_⟩
   subst z
   have hx:i<xss.length:=by omega
   have hy:j<xss.length:=by omega
   rw[N0 hx] at ex
   rw[N0 hy] at e2
   have:=(List.getElem_inj nd).mp (show xss[i]=xss[j] by simp_all)
   omega
  refine N9 ?_
  have hA:A.units<cLine:=by omega
  refine gV (wpAny_pyHash_tuple hA tk ?_)
  refine DO (s:={ s with toks:=s.toks+(xs.length+1) }) hS (by omega) hA tk tu fun h' es' sb hS' pm'=>?_
  refine hq true h' _ sb ⟨fun b o hb e=>?_,es',hS',?_⟩
  ·rw[sb.2 b (NU hb)];simp_all
  ·have:=pm'.map fun e=>e.2
   rw[R7] at this
   refine this.trans ?_
   rw[List.take_succ,hit]
   grind
 ·rintro g' tk ⟨_,es,⟨o,ep,t,e,hx,hd,g⟩,pm⟩ kp
  rw[Pl (by simp)] at pm
  exact fin g' tk o e ⟨es,ep,t,hx,hd,g,pm⟩ kp
end
end L2.ST
namespace L2
open PySem PySem.Spec PyProof.Rows L2.ST L2.Srt
structure OkV (xss:List (List Int)):Prop where
 hz:xss.length<=306
 bd:∀xs∈xss,Bd xs/\xs.length<=20
 nd:(xss.map (kT 20)).Nodup
 ne:∀xs∈xss,xs≠[]
theorem pM {α β:Type}{f:α->β}:∀{l:List α},(l.map f).Nodup->l.Nodup
 | [],_=>.nil
 | x::l,h=>by
  obtain⟨a,b⟩:=Ox.mp h
  exact Ox.mpr ⟨fun z=>a (Ov.mpr ⟨x,z,rfl⟩),pM b⟩
section
variable {X:Cx}
def zk (hc:X.calm=true) (hu:X.A.units+64<cLine):aV X (.type "set") (fun vs H Q=>∃p xs xss,vs=[.ref p]/\SqL X.K H p xs/\TpV X.K H xs xss/\OkV xss/\∀l o us,H l=none->WSt X.w o us->Vals xs us->Q (.ref l) (upd H l (FE.AtO l o))):=by
 intro pins s σ H xs0 us0 Q I r h
 obtain⟨p,xs,xss,rfl,hq,pr,ok,q⟩:=h
 obtain⟨u,rfl,rx⟩:=vals1 r
 cases rx
 obtain⟨its,rv,pl,hz⟩:=I.list hq
 have lx:=pr.len
 have li:=rv.length
 have h0:=ok.hz
 refine Co (I.ok.hd hc) (by omega) pl.isList (by simpa using I.tps pr rv) (pM ok.nd) (by simp_all) fun g' tk o e hW hk=>?_
 exact⟨.ref s.heap.objs.size,_,I.laid (fun b o e=>hk b o (NJ e) e) (NK _) (Ld e),rfl,q _ _ its (I.hok.fresh (NK _)) (by omega) rv⟩
def uG (hc:X.calm=true):aV X (.builtin "sorted") (fun vs H Q=>∃p o us xs xss,vs=[.ref p]/\H p=some (FE.AtO p o)/\WSt X.w o us/\Vals xs us/\TpV X.K H xs xss/\OkV xss ∧
  ∀l (q:List Nat),q.Perm (NQ xss.length)->(q.map fun i=>kT 20 (xss.getD i [])).Pairwise (· < ·)->H l=none->Q (.ref l) (upd H l (.lst (q.map fun i=>xs.getD i .non)))):=by
 intro pins s σ H xs0 us0 Q I r h
 obtain⟨p,o,us,xs,xss,rfl,hp,⟨es,ep,t,hx,hd,g,pm⟩,rv,pr,ok,q⟩:=h
 obtain⟨u,rfl,rx⟩:=vals1 r
 cases rx
 have ho:=(I.hok p _ hp).1
 have tp:=I.tps pr rv
 have h0:=ok.hz
 have lx:=pr.len
 have lu:=rv.length
 have hes:es.size=us.length:=by rw[<- pm.length_eq,NY,NX]
 have h64:306<=sizeLine:=by decide
 refine wQ (Dw g) (I.ok.hd hc) ⟨o,ho,hx,hd⟩ (by omega) fun h' tk acc hle kp hi=>?_
 have va:=(yT hi).trans pm
 have kp2:∀b o,s.heap.get? b=some o->(h'.push (seqObj "list" acc.toList.toArray 0)).get? b=some o:=fun b o e=>NF _ (kp b o e)
 obtain⟨yss,ta,py⟩:=Ao va (tp.keeps kp2)
 refine zL (s:={ s with heap:=h'.push (seqObj "list" acc.toList.toArray 0),toks:=tk }) (NN _ rfl) (by rw[va.length_eq];omega) ta (fun xs hx=>ok.bd xs (py.mem_iff.mp hx)) ((py.map _).nodup_iff.mpr ok.nd) (fun xs hx=>ok.ne xs (py.mem_iff.mp hx)) fun out po so=>⟨_,rfl,?_⟩
 have pu:=po.trans va
 obtain⟨qs,hqs,e⟩:=Bg pu (range_getD us OS)
 rw[show us.length=xss.length by omega] at hqs
 have kq:∀i∈qs,kvH (h'.push (seqObj "list" acc.toList.toArray 0)) (us.getD i OS)=kT 20 (xss.getD i []):=fun i hi=>by
  have hi':i<xss.length:=by grind
  have hv:i<us.length:=by omega
  have kk:=(tp.keeps kp2).kv
  have e1:(us.map (kvH (h'.push (seqObj "list" acc.toList.toArray 0))))[i]'(by simp_all)=(xss.map (kT 20))[i]'(by simp_all):=by simp_all
  grind
 have up:(qs.map fun i=>kT 20 (xss.getD i [])).Pairwise (· < ·):=by
  rw[e,PJ] at so
  rw[PJ]
  refine Q3 ?_ so
  simp_all
 obtain⟨k,hk⟩:=sortedHeap_at (NN _ rfl)
 have hn:=I.hok.fresh hle
 have ql:qs.length=xss.length:=by rw[hqs.length_eq,RA]
 have len:(qs.map fun i=>xs.getD i V.non).length<=sizeLine:=by grind
 have vp:=pW rv qs (fun i hi=>by
  grind)
 refine⟨.ref h'.objs.size,upd H h'.objs.size (.lst (qs.map fun i=>xs.getD i .non)),I.laid (fun b o z=>?_) hle ⟨len,qs.map fun i=>us.getD i OS,k,vp,?_⟩,rfl,q _ qs hqs up hn⟩
 ·have z':=kp b o z
  rw[sortedHeap_old (NU (NJ z')) (by rw[size_push'];exact SD (NJ z'))]
  exact NF _ z'
 ·rw[hk,e]
end
end L2
namespace L2.FE
open PySem PySem.Spec PyProof.Rows L2.ST L2.Srt
noncomputable def okV (xss:List (List Int)):Bool:=decide (xss.length<=306)&&xss.all (fun xs=>!xs.isEmpty&&decide (xs.length<=20)&&xs.all fun x=>decide (0<=x/\x<=98))&&decide ((xss.map (kT 20)).Nodup)
def BK (e:okV xss=true):OkV xss:=by
 unfold okV at e
 simp only[N5,decide_eq_true_eq,NZ] at e
 obtain⟨⟨hz,al⟩,nd⟩:=e
 refine⟨hz,fun xs hx=>⟨fun x hx'=>(al xs hx).2 x hx',(al xs hx).1.2⟩,nd,fun xs hx z=>?_⟩
 grind
noncomputable def kc (nl:NL):List D->Hh->R D:=fun ds h=>match ds with
 | [d]=>match gM d h with
  | some xs=>match fW xs with
   | some xss=>if okV xss=true then nl ((iD xss).map zD) h else .bad
   | none=>.bad
  | none=>.bad
 | _=>.bad
section
variable {K:ND}{g:GG}{ε:EE}{w:Oe}
def DK (r:aK K g α H h) (rd:aC K g α H d x) (e:gM d h=some ds):∃p vs,x=.ref p/\SqL K H p vs/\ao K g α H ds vs:=by
 cases rd with
 | frl hq rs=>cases e;exact⟨_,_,rfl,hq.sq,rs⟩
 | ref hp=>obtain⟨vs,hv,rs⟩:=r.lst e hp;exact⟨_,vs,rfl,SqL.of hv,rs⟩
 | _=>cases e
def Am [iz nl]:kF K g ε (kc nl) (fun vs H Q=>∃p xs xss,vs=[.ref p]/\SqL K H p xs/\TpV K H xs xss/\OkV xss/\∀l o us,H l=none->WSt w o us->Vals xs us →
  ∃p' o' us' xs' xss',[V.ref l]=[V.ref p']/\upd H l (AtO l o) p'=some (AtO p' o')/\WSt w o' us'/\Vals xs' us'/\TpV K (upd H l (AtO l o)) xs' xss'/\OkV xss' ∧
  ∀l' (q:List Nat),q.Perm (NQ xss'.length)->(q.map fun i=>kT 20 (xss'.getD i [])).Pairwise (· < ·)->upd H l (AtO l o) l'=none->gx Q (.ref l') (upd (upd H l (AtO l o)) l' (.lst (q.map fun i=>xs'.getD i .non)))):=by
 intro α H h a x Q r ra w
 cases ra with
 | nil=>exact w.elim
 | cons rd rr=>
  cases rr with
  | cons _ _=>exact w.elim
  | nil=>
   unfold kc at w
   dsimp only at w
   cases e0:gM _ h with
   | none=>rw[e0] at w;exact w.elim
   | some ds=>
    rw[e0] at w
    dsimp only at w
    obtain⟨p,vs,rfl,hq,rs⟩:=DK r rd e0
    cases e:fW ds with
    | none=>rw[e] at w;exact w.elim
    | some xss=>
     rw[e] at w
     obtain⟨ok,w⟩:=WQ.cO w
     obtain⟨pr,ee0⟩:=mP rs e
     refine⟨p,vs,xss,rfl,hq,pr,BK ok,fun l o us hl hW rv=>?_⟩
     have ex:Ext K α H α (upd H l (AtO l o)):=Ext.fresh hl
     have rs2:=rs.ext ex
     obtain⟨pr2,_⟩:=mP rs2 e
     refine⟨l,o,us,vs,xss,rfl,aL,hW,rv,pr2,BK ok,fun l' q pm up hl'=>?_⟩
     subst ee0
     have lt:∀i∈q,i<xss.length:=fun i hi=>by
      grind
     have rp:=uf rs2 q (fun i hi=>by simp_all)
     have ee:(q.map fun i=>(xss.map zD).getD i .non)=(iD xss).map zD:=by
      rw[<- Ba pm up,Pa]
      simp_all
     rw[ee] at rp
     exact NL.post (w.post ex) (r.grow hl) rp hl'
end
end L2.FE
namespace FC
open PySem L2 L2.FE
noncomputable def bC:MF:=bF 2 (aH (eV (aJ asB (av dLt (af 1) (ah cU (aa (af 0) ak)))) (a9 (av dIx (af 0) (af 1))) cF)
  (a9 (cC (.int 0))))
noncomputable def b8:MF:=bF 2 (aH (aW 1 (ah Az (aa (af 0) (aa (av kh (cC (.int 0)) (af 0)) ak))))
  (a9 (ah (dw jW) (aa (af 1) (aa (ah Dd (aa (av dGe (af 1) (av G3 (cC (.int 10)) (cC (.int 18)))) ak)) (aa (av wx (af 1) (cC (.int 1000003))) ak))))))
noncomputable def dF:MF:=pA (fun ds h=>((bF 5 (aH (aW 1 (ah (dw aI) (aa (ah cn ak) ak)))
  (aH (cx (dY fw (aa (af 0) ak)) (gN 2) (aH (aW 3 (ah (dw jW) ak))
  (aH (cx (bp (af 1)) (gN 4) (eB (dZ fc (af 3) (aa (c7 aI (dY fw (aa (af 0) ak)) [4] (aJ asB (av (dIn true) (af 0) (af 1))) (av (bY aI) (af 1) (ah cn (aa (af 0) ak)))) ak))))
  (aW 1 (af 3)))))
  (a9 (af 1))))) ds h).bind (bg h))
noncomputable def bh:MF:=bF 1 (a9 (c7 aI (dY fw (aa (av kh (ah cU (aa (af 0) ak)) (cC (.int 1))) ak)) [0] (aJ asB (av dGt (av dIx (af 1) (af 0)) (av dIx (af 1) (av (bY aI) (af 0) (cC (.int 1)))))) (af 0)))
noncomputable def eO:MF:=bF 2 (aH (aW 1 (ah (dw aI) (aa (cUn (uz "NoOrder") (af 0)) (aa (cUn (uz "NoNumber") (af 0)) (aa (cUn (uz "NoSet") (af 0)) (aa (cUn (uz "NoRow") (af 0)) ak))))))
  (aH (aW 1 (av (bY aI) (af 1) (ah (dw aI) (aa (cUn (uz "NoLine") (af 0)) (aa (cUn (uz "NoText") (af 0)) (aa (cUn (uz "TooGreat") (af 0)) ak))))))
  (aH (eV (qN (iF (aJ kD (cUn Lj (af 0)))) (aJ asB (av dNe (dZ qK (af 1) (aa (cC (.bl true)) ak)) (cC (.int 1))))) (a9 (cC (.str "other"))) cF)
  (a9 (av dIx (ah (dw aI) (aa (cC (.str "order")) (aa (cC (.str "number")) (aa (cC (.str "set")) (aa (cC (.str "row")) (aa (cC (.str "line")) (aa (cC (.str "text")) (aa (cC (.str "great")) ak)))))))) (dZ rN (af 1) (aa (cC (.bl true)) ak)))))))
noncomputable def aS:MF:=bF 2 (aH (aW 1 (ah eO (aa (af 0) ak)))
  (a9 (cIf (aJ asB (av dEq (af 1) (cC (.str "great")))) (ah cn (aa (af 1) (aa (cUn (CZ "TooGreat" "many") (af 0)) (aa (cUn (CZ "TooGreat" "most") (af 0)) ak)))) (ah cn (aa (af 1) ak)))))
noncomputable def fR:MF:=bF 1 (a9 (ye (cUn (kK "int") (af 0)) (FJ (cUn (kK "bool") (af 0)))))
noncomputable def dS:MF:=bF 3 (a9 (ye (ah fR (aa (af 0) ak)) (kC dLe dLe (af 1) (af 0) (af 2))))
noncomputable def bT:MF:=bF 3 (eV (up (iF (aJ kD (ah dS (aa (af 0) (aa (af 1) (aa (af 2) ak))))))) (wH "NoNumber") cF)
noncomputable def bf:MF:=bF 2 (aH (eB (ah bT (aa (up (af 0)) (aa (up (cC (.int 1))) (aa (up (cC (.int 12))) ak)))))
  (eB (ah bT (aa (up (af 1)) (aa (up (cC (.int 0))) (aa (up (cC (.int 12))) ak))))))
noncomputable def bL:MF:=fun ds h=>((bF 8 (aH (aW 2 (av (sJ jW) (ah (dw aI) (aa (cC (.int 0)) ak)) (av (bY aI) (ah cU (aa (af 0) ak)) (cC (.int 1)))))
  (aH (cx (ku (af 0)) (gT2 3 4) (aH (aW 5 (cIf (aJ asB (av dLt (af 3) (af 1))) (cC (.int 1)) (cC (.int 0))))
  (cx (ku (af 4)) (gT2 6 7) (qP (af 2) (av (bY aI) (af 6) (af 5)) (af 7)))))
  (a9 (af 2))))) ds h).bind (bg h)
noncomputable def eL:MF:=fun ds h=>((bF 3 (aH (aW 1 (ah (dw jW) (aa (ah (dw aI) (aa (ah (dw aI) (aa (cC (.int 1)) ak)) ak)) ak)))
  (aH (cx (dY qT (aa (cC (.int 1)) (aa (av (bY aI) (af 0) (cC (.int 1))) ak))) (gN 2) (eB (dZ di (af 1) (aa (c7 aI (dY fw (aa (av (bY aI) (af 2) (cC (.int 1))) ak)) [1] tt1 (ah bL (aa (av dIx (af 1) (cUn vf (cC (.int 1)))) (aa (af 0) ak)))) ak))))
  (a9 (af 1))))) ds h).bind (bg h)
noncomputable def bq:MF:=Ey 3 (aW 2 (ah eL (aa (af 0) ak))) "begun_count" [2,1]
noncomputable def aR:MF:=bF 1 (eV (up (aJ asB (av dGt (af 0) (cC (.int 300))))) (mB "TooGreat" ["many", "most"] (aa (up (af 0)) (aa (up (cC (.int 300))) ak))) cF)
noncomputable def dq:MF:=bF 1 (aH (eV (aJ asB (av dEq (ah cU (aa (af 0) ak)) (cC (.int 0)))) (a9 (cC (.int 0))) cF)
  (a9 (av kh (av dIx (af 0) (cUn vf (cC (.int 1)))) (ah cU (aa (c7 aI (bp (af 0)) [0] (aJ asB (av dLt (af 0) (av dIx (af 1) (cUn vf (cC (.int 1)))))) (af 0)) ak)))))
noncomputable def eT:MF:=bF 1 (a9 (ah qU (aa (c7 aI (dY fw (aa (av kh (ah cU (aa (af 0) ak)) (cC (.int 1))) ak)) [0] (aJ asB (av dGt (av dIx (af 1) (af 0)) (av dIx (af 1) (av (bY aI) (af 0) (cC (.int 1)))))) (af 0)) ak)))
noncomputable def aQ:MF:=bF 5 (aH (aW 3 (av dIx (av dIx (af 0) (av kh (av kh (ah cU (aa (af 0) ak)) (cC (.int 1))) (ah cU (aa (af 2) ak)))) (ah dq (aa (af 2) ak))))
  (aH (aW 4 (av kh (af 1) (ah cU (aa (ah eT (aa (af 2) ak)) ak))))
  (a9 (cIf (aJ asB (kC dLe dLt (cC (.int 0)) (af 4) (ah cU (aa (af 3) ak)))) (av dIx (af 3) (af 4)) (cC (.int 0))))))
noncomputable def ji:Str->Option (Nat × MF):=fun x=>if x="begun_count" then some (3,aQ) else none
@[simp] theorem j_:ji "begun_count" = some (3,aQ):=by kernel_rfl
noncomputable def bu:MF:=bF 4 (aH (aW 3 (c7 aI (dY fw (aa (af 0) ak)) [1] (aJ asB (av (dIn true) (af 0) (af 1))) (av (bY aI) (af 1) (ah cn (aa (af 0) ak)))))
  (a9 (c7 aI (bp (af 3)) [2] (aJ asB (av dGt (fV ji (af 1) (aa (af 0) ak)) (cC (.int 0)))) (af 0))))
noncomputable def bX:MF:=fun ds h=>((bF 4 (aH (aW 2 (ah (dw jW) (aa (ah cn ak) ak)))
  (aH (cx (dY fw (aa (af 0) ak)) (gN 3) (aW 2 (d7 (bp (af 2)) [0,1] (bp (ah bu (aa (af 2) (aa (af 0) (aa (af 3) ak))))) (af 1))))
  (a9 (af 2))))) ds h).bind (gi h)
noncomputable def aY:MF:=bF 3 (aH (eB (ah bf (aa (up (af 0)) (aa (up (af 1)) ak))))
  (aH (up (aW 2 (ah bq (aa (af 0) (aa (af 1) ak)))))
  (aH (eB (ah aR (aa (up (fV ji (af 2) (aa (ah cn ak) ak))) ak)))
  (up (a9 (ah bX (aa (af 0) (aa (af 2) ak))))))))
noncomputable def bw:MF:=fun ds h=>((bF 3 (oV (a9 (ah aY (aa (up (af 0)) (aa (up (af 1)) ak)))) aS)) ds h).bind (exitQ h)
noncomputable def ba:MF:=fun ds h=>((bF 5 (aH (aW 2 (c7 aI (bp (ah dF (aa (af 0) ak))) [1] (aJ asB (av dEq (ah cU (aa (ah bh (aa (af 0) ak)) ak)) (af 1))) (af 0)))
  (aH (cx (dY fw (aa (cC (.int 2)) ak)) (gN 3) (aH (aW 4 (ah bw (aa (af 0) (aa (af 1) ak))))
  (aH (eV (aJ asB (av dNe (ah dU (aa (af 4) ak)) (ah dU (aa (cIf (aJ asB (av dLt (ah cU (aa (af 2) ak)) (cC (.int 301)))) (af 2) (ah cn (aa (cC (.str "great")) (aa (ah cU (aa (af 2) ak)) (aa (cC (.int 300)) ak))))) ak)))) (a9 (cC (.bl false))) cF)
  (eV (aJ kD (cUn (kK "list") (af 4))) (eB (dZ di (af 4) (aa (ah cn ak) ak))) cF))))
  (a9 (cC (.bl true)))))) ds h).bind (bg h)
noncomputable def cX:MF:=bF 1 (aH (aW 0 (av wx (av (bY aI) (af 0) (cC (.int 7919))) (cC (.int 2147483647))))
  (a9 (av wx (av (bY aI) (av (bY aI) (av (sJ aI) (af 0) (af 0)) (av (sJ aI) (cC (.int 48271)) (af 0))) (cC (.int 12345))) (cC (.int 2147483629)))))
noncomputable def aF:MF:=bF 3 (aH (eV (Br (aJ asB (av dEq (av dIx (af 0) (cC (.int 1))) (cC (.int 1)))) (aJ asB (av dGt (av dIx (af 0) (cC (.int 0))) (cC (.int 0))))) (aH (aW 2 (av wx (av dIx (af 0) (cC (.int 0))) (af 1)))
  (aH (i3 f_ (af 0) (cC (.int 0)) (av DA (av dIx (af 0) (cC (.int 0))) (af 1)))
  (a9 (af 2)))) cF)
  (aH (i3 f_ (af 0) (cC (.int 2)) (ah cX (aa (av (bY aI) (ah cX (aa (av dIx (af 0) (cC (.int 2))) ak)) (cC (.int 7))) ak)))
  (a9 (av wx (av DA (av dIx (af 0) (cC (.int 2))) (cC (.int 64))) (af 1)))))
noncomputable def cW:MF:=pA (fun ds h=>((bF 9 (aH (aW 2 (rX (ah cn (aa (cC (.int 0)) (aa (cC (.int 0)) ak))) (cC (.int 1))))
  (aH (cx (dY qT (aa (cC (.int 1)) (aa (af 0) ak))) (gN 3) (aH (aW 4 xW)
  (aH (cx (bp (ah (gK aI) (aa (af 2) ak))) (gT2 5 6) (cx (dY fw (aa (av (bY aI) (af 3) (cC (.int 1))) ak)) (gN 7) (aH (aW 8 (ah cn (aa (af 7) (aa (av (bY aI) (af 6) (ah Dd (aa (av dLe (af 7) (af 5)) ak))) ak))))
  (i3 qr (af 4) (af 8) (av (bY aI) (mO (af 4) (af 8) (cC (.int 0))) (av gW (af 2) (ah cn (aa (af 5) (aa (af 6) ak)))))))))
  (aW 2 (af 4)))))
  (a9 (ah yR (aa (c7 aI (bp (ah (gK aI) (aa (af 2) ak))) [2,1] (aJ asB (av dEq (av dIx (af 0) (cC (.int 1))) (af 2))) (av gW (af 1) (af 0))) ak)))))) ds h).bind (bg h))
noncomputable def bV:MF:=fun ds h=>((bF 4 (aH (aW 2 (ah (dw aI) (aa (ah cn ak) ak)))
  (aH (cx (dY fw (aa (af 0) ak)) (gN 3) (aW 2 (d7 (bp (af 2)) [0,1] (bp (ah bu (aa (af 2) (aa (af 0) (aa (af 3) ak))))) (af 1))))
  (a9 (af 2))))) ds h).bind (bg h)
noncomputable def cB:MF:=bF 3 (aH (eB (ah bf (aa (up (af 0)) (aa (up (af 1)) ak))))
  (aH (up (aW 2 (ah bq (aa (af 0) (aa (af 1) ak)))))
  (aH (eB (ah aR (aa (up (fV ji (af 2) (aa (ah cn ak) ak))) ak)))
  (up (a9 (ah bV (aa (af 0) (aa (af 2) ak))))))))
noncomputable def cZ:MF:=bF 3 (oV (a9 (ah cB (aa (up (af 0)) (aa (up (af 1)) ak)))) aS)
noncomputable def aM:MF:=fun ds h=>((bF 6 (aH (aW 2 (ah cW (aa (af 0) (aa (af 1) ak))))
  (aH (aW 3 (ah bw (aa (af 0) (aa (af 1) ak))))
  (aH (eV (aJ asB (av dGt (af 2) (cC (.int 300)))) (a9 (av dEq (af 3) (ah cn (aa (cC (.str "great")) (aa (af 2) (aa (cC (.int 300)) ak)))))) cF)
  (aH (eV (qN (iF (aJ kD (cUn (kK "list") (af 3)))) (qN (aJ asB (av dNe (ah cU (aa (af 3) ak)) (af 2))) (aJ asB (av dNe (af 3) (ah (kc aI) (aa (af 3) ak)))))) (a9 (cC (.bl false))) cF)
  (aH (cx (bp (af 3)) (gN 4) (eV (qN (aJ asB (av dNe (ah dU (aa (ah (lg aI) (aa (af 4) ak)) ak)) (ah dU (aa (ah (iX aI) (aa (af 0) ak)) ak)))) (aJ asB (av dNe (ah cU (aa (ah bh (aa (af 4) ak)) ak)) (af 1)))) (a9 (cC (.bl false))) cF))
  (aH (aW 5 (ah dU (aa (af 3) ak)))
  (aH (eB (dZ di (af 3) (aa (ah cn ak) ak)))
  (a9 (av dEq (ah dU (aa (ah cZ (aa (af 0) (aa (af 1) ak))) ak)) (af 5))))))))))) ds h).bind (bg h)
noncomputable def nY:MF:=fun ds h=>((bF 5 (aH (cx (bp (av (bY aI) (ah (dw aI) (aa (ah bC (aa (af 0) (aa (cC (.int 0)) ak))) ak)) (rL aI (af 0) (pU (cC (.int 1))) (pU (cC (.int 4)))))) (gN 1) (aH (aW 2 (ah b8 (aa (af 1) ak)))
  (aH (eV (iF (aJ kD (ah ba (aa (av (bY aI) (cC (.int 1)) (ah aF (aa (af 2) (aa (cC (.int 6)) ak)))) (aa (ah aF (aa (af 2) (aa (av dIx (ah (dw aI) (aa (cC (.int 6)) (aa (cC (.int 13)) ak))) (ah aF (aa (af 2) (aa (cC (.int 2)) ak)))) ak))) ak))))) (a9 (cC (.bl false))) cF)
  (aH (aW 3 (av (bY aI) (cC (.int 7)) (ah aF (aa (af 2) (aa (cC (.int 6)) ak)))))
  (cx (bp (ah cn (aa (cC (.int 0)) (aa (av kh (af 3) (cC (.int 1))) (aa (ah aF (aa (af 2) (aa (cC (.int 13)) ak))) (aa (av dIx (ah (dw aI) (aa (cC (.int 1)) (aa (av kh (af 3) (cC (.int 2))) ak))) (ah aF (aa (af 2) (aa (cC (.int 2)) ak)))) ak)))))) (gN 4) (eV (iF (aJ kD (ah aM (aa (af 3) (aa (af 4) ak))))) (a9 (cC (.bl false))) cF))))))
  (a9 (cC (.bl true))))) ds h).bind (bg h)
noncomputable def aA (i:Nat):Stmt:=N2.main.body.getD i (.Pass ⟨0,0,0,0⟩)
structure Blt (mg:Str->Option NI):Prop where
 ValueError:mg "ValueError" = none
 bool:mg "bool" = none
 enumerate:mg "enumerate" = none
 int:mg "int" = none
 isinstance:mg "isinstance" = none
 len:mg "len" = none
 list:mg "list" = none
 max:mg "max" = none
 range:mg "range" = none
 repr:mg "repr" = none
 set:mg "set" = none
 sorted:mg "sorted" = none
 sum:mg "sum" = none
 tuple:mg "tuple" = none
section
variable {P:NT}{w:Oe}{K:ND}{mg:Str->Option NI}{base:Heap}{g:GG}
local macro_rules | `($a::$b)=>`(@EH _ _ _ _ _ _ _ $a $b rfl)
local macro_rules | `($a\/$b)=>`(@DB _ _ _ _ _ _ _ $a $b)
local macro_rules | `(!$a)=>`(@Ho _ _ _ _ _ $a)
local macro_rules | `(-$a)=>`(@Kl _ _ _ _ _ _ $a)
local macro_rules | `($a + $b)=>`(@kJ _ _ _ _ _ _ _ _ _ _ _ Im G2 $a $b)
local macro_rules | `($a - $b)=>`(@kJ _ _ _ _ _ _ _ _ _ _ _ GX GN $a $b)
local macro_rules | `($a * $b)=>`(@kJ _ _ _ _ _ _ _ _ _ _ _ IH IS $a $b)
local macro_rules | `($a / $b)=>`(@kJ _ _ _ _ _ _ _ _ _ _ _ BF IY $a $b)
local macro_rules | `($a % $b)=>`(@kJ _ _ _ _ _ _ _ _ _ _ _ GU IU $a $b)
local macro_rules | `($a < $b)=>`(@cS _ _ _ _ _ _ _ _ _ _ _ FO FG $a $b (cg _))
local macro_rules | `($a > $b)=>`(@cS _ _ _ _ _ _ _ _ _ _ _ K4 JM $a $b (cg _))
local macro_rules | `($a ^ $b)=>`(@KC _ _ _ _ _ _ _ _ _ _ Gm Lb $a $b (fun _ _=>rfl))
local macro_rules | `($a >>= $b)=>`(@JW _ _ _ _ _ _ $a _ _ (by assumption) rfl (by first | exact Or.inl rfl | exact Or.inr rfl) $b rfl (.inl rfl))
local macro_rules | `(~~~$a)=>`(@GC _ _ _ _ _ _ _ $a)
local macro_rules | `(#[$a])=>`(@Hx _ _ _ _ _ _ _ _ $a)
local macro_rules | `(↑$a)=>`(@KQ _ _ _ _ _ $a)
local macro_rules | `(¬$a)=>`(jP (i:=$a) (by assumption) rfl (by first | exact Or.inl rfl | exact Or.inr rfl))
def lQ:az ["_law_script", "_law_k"] ["_law_script", "_law_k"] (ag (aA 29)):=fsc ⟨rfl,rfl,rfl⟩ (by decide +kernel)
def km (D:aG K mg "_law_cell_at" (aA 29)) (T:Blt mg):Has P w K mg base g "_law_cell_at" 1 ["_law_script", "_law_k"] bC:=by
 refine iw D lQ (bd2 fun _ _ _ _ _ _ _ _=>rfl) fun nd f cdv A outer s H E hr=>?_
 exact @kQ _ _ _ _ _ _ _ _ _ _ (ae 1<aO cT cR rfl T.len OG (ae 0::ai)) (!-(ae 0 ^ ae 1)) cy\/!-au
def nj:az ["_law_cell", "_law_left"] ["_law_cell"] (ag (aA 31)):=fsc ⟨rfl,rfl,rfl⟩ (by decide +kernel)
def lV (D:aG K mg "_law_pen_of" (aA 31)) (T:Blt mg):Has P w K mg base g "_law_pen_of" 1 ["_law_cell"] b8:=by
 refine iw D nj (bd1 fun _ _ _ _ _ _ _=>rfl) fun nd f cdv A outer s H E hr=>?_
 exact 1 >>= aO (Ak rfl) Fb rfl T.max PyProof.Rows.boot_max (ae 0::(au - ae 0)::ai)\/!-#[ae 1::fL pK BH rfl T.int RL (@rD _ _ _ _ _ _ _ _ _ _ _ Kz Ko (ae 1) (@kJ _ _ _ _ _ _ _ _ _ _ _ E4 Hd au au) (cg _)::ai)::ae 1 % au::ai]
def lA:az ["_law_n", "_law_found", "_law_turn", "_law_longer", "_law_begun"] ["_law_n"] (ag (aA 36)):=fsc ⟨rfl,rfl,rfl⟩ (by decide +kernel)
def rR (D:aG K mg "_law_all" (aA 36)) (T:Blt mg):Has P w K mg base g "_law_all" 1 ["_law_n"] dF:=by
 obtain⟨f,fd,hm,F⟩:=D
 refine⟨f,fd,BQ (fX (vG F lA (fun cdv A outer s H E hr=>?_))),F.kp,F.binds (fun _ _ _ _ _ _ us hl=>Bu hl fun _=>rfl),hm,c6 F⟩
 have nd:=lA.nd
 exact 1 >>= #[~~~ai::ai]\/fm OD rfl (dJ rfl T.range (ae 0::ai)) (¬2) de (3 >>= #[ai]\/fm OD rfl (@dB _ _ _ _ _ _ (ae 1)) (¬4) de (!fC (kx PySem.F.slot_list_extend PySem.F.type_list_extend vF zY (ae 3) (eM (osc:=ag (aA 36)) [4] ["_law_number", "_law_begun"] rfl rfl rfl rfl (by decide +kernel) ⟨by decide +kernel,by decide +kernel,rfl,by decide +kernel,rfl,by decide +kernel⟩ (dJ rfl T.range (ae 0::ai)) (fun cl C ax aD fp=>hZ (@cS _ _ _ _ _ _ _ _ _ _ _ jF FK (ae 0) (ae 1) (by rfl))) (fun cl C ax aD fp=>ae 1 + ~~~(ae 0::ai))::ai)))\/!1 >>= ae 3)\/!-ae 1
def oX:az ["_law_row"] ["_law_row"] (ag (aA 35)):=fsc ⟨rfl,rfl,rfl⟩ (by decide +kernel)
def nG (D:aG K mg "_law_falls" (aA 35)) (T:Blt mg):Has P w K mg base g "_law_falls" 1 ["_law_row"] bh:=by
 refine iw D oX (bd1 fun _ _ _ _ _ _ _=>rfl) fun nd f cdv A outer s H E hr=>?_
 exact !-eM (osc:=ag (aA 35)) [0] ["_law_place", "_law_row"] rfl rfl rfl rfl (by decide +kernel) ⟨by decide +kernel,by decide +kernel,rfl,by decide +kernel,rfl,by decide +kernel⟩ (dJ rfl T.range ((aO cT cR rfl T.len OG (ae 0::ai) - au)::ai)) (fun cl C ax aD fp=>hZ (ae 1 ^ ae 0 > ae 1 ^ (ae 0+au))) (fun cl C ax aD fp=>ae 0)
def gu:az ["_law_e", "_law_marks"] ["_law_e"] (ag (aA 33)):=fsc ⟨rfl,rfl,rfl⟩ (by decide +kernel)
def kR (D:aG K mg "_law_kind_of" (aA 33)) (T:Blt mg) (hgo:g=gOf mg) (CL:m9 K mg):Av P w K mg base g "_law_kind_of" 1 ["_law_e"] eO:=by
 obtain⟨f,fd,hm,F⟩:=D
 refine⟨f,fd,F0 F gu (fun cdv A outer s H E hr=>?_),F.kp,F.binds (fun _ _ _ _ _ _ us hl=>Bu hl fun _=>rfl),hm⟩
 have nd:=gu.nd
 exact 1 >>= #[iY CL hgo (ae 0) rfl T.isinstance rfl (by decide)::iY CL hgo (ae 0) rfl T.isinstance rfl (by decide)::iY CL hgo (ae 0) rfl T.isinstance rfl (by decide)::iY CL hgo (ae 0) rfl T.isinstance rfl (by decide)::ai]\/1 >>= ae 1 + #[iY CL hgo (ae 0) rfl T.isinstance rfl (by decide)::iY CL hgo (ae 0) rfl T.isinstance rfl (by decide)::iY CL hgo (ae 0) rfl T.isinstance rfl (by decide)::ai]\/@kQ _ _ _ _ _ _ _ _ _ _ (PW.pt (@xS _ _ _ _ _ _ _ _ _ (@mY _ _ _ _ _ _ (@fH _ _ _ _ _ _ jZ (HE CL hgo (ae 0) rfl T.isinstance rfl T.ValueError) (fun _=>rfl))) (@vP _ _ _ _ _ _ (@cS _ _ _ _ _ _ _ _ _ _ _ (kn hr.units) pV (kx PySem.F.slot_list_count PySem.F.type_list_count zo yP (ae 1) (jM::ai)) au (cg _))))) (!-eQ) cy\/!-(#[eQ::eQ::eQ::eQ::eQ::eQ::eQ::ai] ^ kx PySem.F.slot_list_index PySem.F.type_list_index Ai zx (ae 1) (jM::ai))
def gr:az ["_law_e", "_law_kind"] ["_law_e"] (ag (aA 34)):=fsc ⟨rfl,rfl,rfl⟩ (by decide +kernel)
def kB (D:aG K mg "_law_refused" (aA 34)) (T:Blt mg) (hgo:g=gOf mg) (cq:CIm K mg "TooGreat" (aA 8) ["many", "most"]) (dA:Av P w K mg base g "_law_kind_of" 1 ["_law_e"] eO):Av P w K mg base g "_law_refused" 2 ["_law_e"] aS:=by
 obtain⟨f,fd,hm,F⟩:=D
 obtain⟨zU,yL,ki,kU,kP,j3⟩:=dA
 refine⟨f,fd,F0 F gr (fun cdv A outer s H E hr=>?_),F.kp,F.binds (fun _ _ _ _ _ _ us hl=>Bu hl fun _=>rfl),hm⟩
 have nd:=gr.nd
 exact 1 >>= CA (ki.mono (by decide)) hr rfl j3 kU kP (ae 0::ai) (aj ay)\/!-@jf _ _ _ _ _ _ _ _ _ _ (@cS _ _ _ _ _ _ _ _ _ _ _ (iL hr.units) ng (ae 1) eQ (cg _)) (~~~(ae 1::yF (ae 0) cq hgo (by decide)::yF (ae 0) cq hgo (by decide)::ai)) (~~~(ae 1::ai))
def tK:az ["thing"] ["thing"] (ag (aA 10)):=fsc ⟨rfl,rfl,rfl⟩ (by decide +kernel)
def rH (D:aG K mg "is_whole" (aA 10)) (T:Blt mg):Has P w K mg base g "is_whole" 1 ["thing"] fR:=by
 refine iw D tK (bd1 fun _ _ _ _ _ _ _=>rfl) fun nd f cdv A outer s H E hr=>?_
 exact !-@BB _ _ _ _ _ _ _ _ _ (r_ (ae 0) rfl T.isinstance rfl T.int RL) (@CU _ _ _ _ _ _ _ (@Hl _ _ _ _ _ _ (r_ (ae 0) rfl T.isinstance rfl T.bool PyProof.Rows.boot_bool)))
def rP:az ["thing", "least", "most"] ["thing", "least", "most"] (ag (aA 11)):=fsc ⟨rfl,rfl,rfl⟩ (by decide +kernel)
def oE (D:aG K mg "is_within" (aA 11)) (T:Blt mg) (fS:Has P w K mg base g "is_whole" 1 ["thing"] fR):Has P w K mg base g "is_within" 2 ["thing", "least", "most"] dS:=by
 refine iw D rP (bd3 fun _ _ _ _ _ _ _ _ _=>rfl) fun nd f cdv A outer s H E hr=>?_
 exact !-@BB _ _ _ _ _ _ _ _ _ (cQ fS hr (ae 0::ai) (aj ay)) (@CU _ _ _ _ _ _ _ (AR xJ xJ xc xc (ae 1) (ae 0) (ae 2)))
def j7:az ["thing", "least", "most"] ["thing", "least", "most"] (ag (aA 12)):=fsc ⟨rfl,rfl,rfl⟩ (by decide +kernel)
def jx (D:aG K mg "number_needed" (aA 12)) (T:Blt mg) (hgo:g=gOf mg) (CL:m9 K mg) (fq:Has P w K mg base g "is_within" 2 ["thing", "least", "most"] dS):jC P w K mg base g "number_needed" 3 ["thing", "least", "most"] bT:=by
 obtain⟨A_NoNumber,iQ⟩:=CL.at_ "NoNumber" (by decide)
 refine HZ D j7 (bd3 fun _ _ _ _ _ _ _ _ _=>rfl) fun nd f cdv A outer s H E hr fl pl po=>?_
 exact !@kQ _ _ _ _ _ _ _ _ _ _ (@F6 _ _ _ _ _ (@mY _ _ _ _ _ _ (@fH _ _ _ _ _ _ jZ (cQ fq hr (ae 0::ae 1::ae 2::ai) (aj (aj (aj ay)))) (fun _=>rfl)))) (!DX fl pl rfl rfl iQ (IT hgo iQ) ((CL.one _ (by decide) _ iQ).2.2 rfl)) cy
def jB:az ["n", "k"] ["n", "k"] (ag (aA 19)):=fsc ⟨rfl,rfl,rfl⟩ (by decide +kernel)
def iZ (D:aG K mg "numbers_needed" (aA 19)) (T:Blt mg){iC:Tok} (dN:mg "MOST_LISTED" = some (.int 12 iC)) (cb:jC P w K mg base g "number_needed" 3 ["thing", "least", "most"] bT):jC P w K mg base g "numbers_needed" 4 ["n", "k"] bf:=by
 refine HZ D jB (bd2 fun _ _ _ _ _ _ _ _=>rfl) fun nd f cdv A outer s H E hr fl pl po=>?_
 exact fC (kX fl pl cb hr (↑(ae 0)::↑au::↑(js rfl dN)::ai) (aj (aj (aj ay))))\/!fC (kX fl pl cb hr (↑(ae 1)::↑au::↑(js rfl dN)::ai) (aj (aj (aj ay))))
def nL:az ["fewer", "lower", "counts", "rank", "rest", "fall", "falls", "many"] ["fewer", "lower"] (ag (aA 22)):=fsc ⟨rfl,rfl,rfl⟩ (by decide +kernel)
def lY (D:aG K mg "rest_counts" (aA 22)) (T:Blt mg):Has P w K mg base g "rest_counts" 1 ["fewer", "lower"] bL:=by
 refine D4 (iw D nL (bd2 fun _ _ _ _ _ _ _ _=>rfl) fun nd f cdv A outer s H E hr=>?_)
 exact 2 >>= #[au::ai]*(aO cT cR rfl T.len OG (ae 0::ai)+au)\/fm OD rfl (xD rfl T.enumerate (ae 0)) (vQ rfl (fM (¬3) (fM (¬4) rZ))) wb (5 >>= @jf _ _ _ _ _ _ _ _ _ _ (ae 3<ae 1) au au\/!fm OD rfl (xD rfl T.enumerate (ae 4)) (vQ rfl (fM (¬6) (fM (¬7) rZ))) wb (!Fu (ae 2) (ae 6+ae 5) (ae 7)))\/!-ae 2
def lG:az ["n", "rests", "left"] ["n"] (ag (aA 21)):=fsc ⟨rfl,rfl,rfl⟩ (by decide +kernel)
def sf (D:aG K mg "rests_of" (aA 21)) (T:Blt mg) (d9:Has P w K mg base g "rest_counts" 1 ["fewer", "lower"] bL):Has P w K mg base g "rests_of" 2 ["n"] eL:=by
 obtain⟨f,fd,hm,F⟩:=D
 refine⟨f,fd,fX (vG F lG (fun cdv A outer s H E hr=>?_)),F.kp,F.binds (fun _ _ _ _ _ _ us hl=>Bu hl fun _=>rfl),hm,c6 F⟩
 have nd:=lG.nd
 exact 1 >>= #[#[#[au::ai]::ai]::ai]\/fm OD rfl (xt rfl T.range (au::(ae 0+au)::ai)) (¬2) de (!fC (kx Q4 Q5 fJ kG (ae 1) (eM (osc:=ag (aA 21)) [1] ["lower", "rests"] rfl rfl rfl rfl (by decide +kernel) ⟨by decide +kernel,by decide +kernel,rfl,by decide +kernel,rfl,by decide +kernel⟩ (dJ rfl T.range ((ae 2+au)::ai)) (fun cl C ax aD fp=>Gu) (fun cl C ax aD fp=>cQ d9 hr (ae 1 ^ @Cu _ _ _ _ _ _ _ _ _ wA wC au::ae 0::ai) (aj (aj ay)))::ai)))\/!-ae 1
def iB:az ["n", "k", "rests"] ["n", "k"] (ag (aA 25)):=fsc ⟨rfl,rfl,rfl⟩ (by decide +kernel)
def nX (D:aG K mg "counter_of" (aA 25)) (T:Blt mg) (MK:Ds K mg base "counter_of" (aA 25)) (gc:Has P w K mg base g "rests_of" 2 ["n"] eL):Has P w K mg base g "counter_of" 3 ["n", "k"] bq:=by
 obtain⟨f,fd,hm,F⟩:=D
 obtain⟨c,PT,MK⟩:=MK f fd hm F
 refine⟨f,fd,HR ((aP (aA 25)).take 1) "begun_count" "begun" ["rests", "k"] [2,1] F iB MK rfl (fun _=>rfl) (by decide +kernel) (by decide +kernel) rfl ⟨⟨_,_,_,[("rests", _),("k", _)],rfl,rfl⟩,rfl,rfl,rfl,by decide +kernel,rfl,rfl,by decide +kernel,⟨by decide,by decide⟩,fun _ _ _ _ _=>rfl⟩ (fun cdv A outer s H E hr=>?_),F.kp,F.binds (fun _ _ _ _ _ _ us hl=>wO hl fun _ _=>rfl),hm,c6 F⟩
 have nd:=iB.nd
 exact !2 >>= cQ gc hr (ae 0::ai) (aj ay)
def ni:az ["many"] ["many"] (ag (aA 20)):=fsc ⟨rfl,rfl,rfl⟩ (by decide +kernel)
def lJ (D:aG K mg "told_needed" (aA 20)) (T:Blt mg) (hgo:g=gOf mg) (cq:CIm K mg "TooGreat" (aA 8) ["many", "most"]){lz:Tok} (fj:mg "MOST_TOLD" = some (.int 300 lz)):jC P w K mg base g "told_needed" 3 ["many"] aR:=by
 refine HZ D ni (bd1 fun _ _ _ _ _ _ _=>rfl) fun nd f cdv A outer s H E hr fl pl po=>?_
 exact !@kQ _ _ _ _ _ _ _ _ _ _ (@F6 _ _ _ _ _ (ae 0 > js rfl fj)) (!C3 (k:=0) fl pl rfl rfl cq hgo (hr.mono (by decide)) (by decide) (↑(ae 0)::↑(js rfl fj)::ai)) cy
def oQ:az ["begun"] ["begun"] (ag (aA 24)):=fsc ⟨rfl,rfl,rfl⟩ (by decide +kernel)
def nI (D:aG K mg "lower_left" (aA 24)) (T:Blt mg):Has P w K mg base g "lower_left" 1 ["begun"] dq:=by
 refine iw D oQ (bd1 fun _ _ _ _ _ _ _=>rfl) fun nd f cdv A outer s H E hr=>?_
 exact @kQ _ _ _ _ _ _ _ _ _ _ (@cS _ _ _ _ _ _ _ _ _ _ _ (iL hr.units) ng (aO cT cR rfl T.len OG (ae 0::ai)) au (cg _)) (!-au) cy\/!-(ae 0 ^ @Cu _ _ _ _ _ _ _ _ _ wA wC au - aO cT cR rfl T.len OG (eM (osc:=ag (aA 24)) [0] ["number", "begun"] rfl rfl rfl rfl (by decide +kernel) ⟨by decide +kernel,by decide +kernel,rfl,by decide +kernel,rfl,by decide +kernel⟩ (@dB _ _ _ _ _ _ (ae 0)) (fun cl C ax aD fp=>hZ (ae 0<ae 1 ^ @Cu _ _ _ _ _ _ _ _ _ wA wC au)) (fun cl C ax aD fp=>ae 0)::ai))
def sL:az ["numbers"] ["numbers"] (ag (aA 14)):=fsc ⟨rfl,rfl,rfl⟩ (by decide +kernel)
def se (D:aG K mg "falls_in" (aA 14)) (T:Blt mg):Has P w K mg base g "falls_in" 1 ["numbers"] eT:=by
 refine iw D sL (bd1 fun _ _ _ _ _ _ _=>rfl) fun nd f cdv A outer s H E hr=>?_
 exact !-fL ou Cf rfl T.tuple PyProof.Rows.boot_tuple (eM (osc:=ag (aA 14)) [0] ["place", "numbers"] rfl rfl rfl rfl (by decide +kernel) ⟨by decide +kernel,by decide +kernel,rfl,by decide +kernel,rfl,by decide +kernel⟩ (dJ rfl T.range ((aO cT cR rfl T.len OG (ae 0::ai) - au)::ai)) (fun cl C ax aD fp=>hZ (ae 1 ^ ae 0 > ae 1 ^ (ae 0+au))) (fun cl C ax aD fp=>ae 0)::ai)
def nM:az ["rests", "k", "begun", "counts", "falls"] ["rests", "k", "begun"] (ag (aA 23)):=fsc ⟨rfl,rfl,rfl⟩ (by decide +kernel)
def lN (D:aG K mg "begun_count" (aA 23)) (T:Blt mg) (eR:Has P w K mg base g "lower_left" 1 ["begun"] dq) (f6:Has P w K mg base g "falls_in" 1 ["numbers"] eT):Has P w K mg base g "begun_count" 2 ["rests", "k", "begun"] aQ:=by
 refine iw D nM (bd3 fun _ _ _ _ _ _ _ _ _=>rfl) fun nd f cdv A outer s H E hr=>?_
 exact 3 >>= (ae 0 ^ (aO cT cR rfl T.len OG (ae 0::ai) - au - aO cT cR rfl T.len OG (ae 2::ai))) ^ cQ eR hr (ae 2::ai) (aj ay)\/4 >>= ae 1 - aO cT cR rfl T.len OG (cQ f6 hr (ae 2::ai) (aj ay)::ai)\/!-@jf _ _ _ _ _ _ _ _ _ _ (CN xJ FO xc FG au (ae 4) (aO cT cR rfl T.len OG (ae 3::ai))) (ae 3 ^ ae 4) au
def eU:az ["n", "begun", "many_with", "longer"] ["n", "begun", "many_with"] (ag (aA 26)):=fsc ⟨rfl,rfl,rfl⟩ (by decide +kernel)
def lI (D:aG K mg "longer_ones" (aA 26)) (T:Blt mg) (aU:Has P w K mg base g "begun_count" 2 ["rests", "k", "begun"] aQ):Has P w K mg base g "longer_ones" 4 ["n", "begun", "many_with"] bu:=by
 obtain⟨f,fd,hm,F⟩:=D
 obtain⟨gk,fP,bZ,bU,bS,bW,_⟩:=aU
 have TC:∀x np m,ji x=some (np,m)->∃f fd ps,mg x=some (.ref f)/\b9 P w K mg base CX0 2 f fd ps (spM K g np m)/\Om K (.ref f)=true/\Binds K fd ps []:=by
  intro x np m e
  unfold ji at e
  by_cases aN:x="begun_count"
  ·rw[if_pos aN] at e;cases e;rw[aN];exact⟨_,_,_,bW,bZ.mono (by decide),bU,bS⟩
  rw[if_neg aN] at e
  cases e
 refine⟨f,fd,vG F eU (fun cdv A outer s H E hr=>?_),F.kp,F.binds (fun _ _ _ _ _ _ us hl=>GA hl fun _ _ _=>rfl),hm,c6 F⟩
 have nd:=eU.nd
 exact mT (osc:=ag (aA 26)) [1] ["number", "begun"] rfl rfl rfl rfl (by decide +kernel) ⟨by decide +kernel,by decide +kernel,rfl,by decide +kernel,rfl,by decide +kernel⟩ (dJ rfl T.range (ae 0::ai)) (fun cl C ax aD fp=>hZ (@cS _ _ _ _ _ _ _ _ _ _ _ jF FK (ae 0) (ae 1) (by rfl))) (fun cl C ax aD fp=>ae 1 + ~~~(ae 0::ai)) (i:=3) eU.nd rfl\/!-eM (osc:=ag (aA 26)) [2] ["one", "many_with"] rfl rfl rfl rfl (by decide +kernel) ⟨by decide +kernel,by decide +kernel,rfl,by decide +kernel,rfl,by decide +kernel⟩ (@dB _ _ _ _ _ _ (ae 3)) (fun cl C ax aD fp=>hZ (m8 TC hr (ae 1) (ae 0::ai) (aj ay) > au)) (fun cl C ax aD fp=>ae 0)
def cz:az ["n", "many_with", "orders", "place"] ["n", "many_with"] (ag (aA 27)):=fsc ⟨rfl,rfl,rfl⟩ (by decide +kernel)
def jG (D:aG K mg "orders_listed" (aA 27)) (T:Blt mg) (bH:Has P w K mg base g "longer_ones" 4 ["n", "begun", "many_with"] bu):Has P w K mg base g "orders_listed" 5 ["n", "many_with"] bX:=by
 refine Mj (iw D cz (bd2 fun _ _ _ _ _ _ _ _=>rfl) fun nd f cdv A outer s H E hr=>?_)
 exact 2 >>= #[~~~ai::ai]\/fm OD rfl (dJ rfl T.range (ae 0::ai)) (¬3) de (!nU (osc:=ag (aA 27)) [0,1] ["begun", "longer", "n", "many_with"] rfl rfl rfl rfl (by decide +kernel) ⟨by decide +kernel,by decide +kernel,rfl,by decide +kernel,by decide +kernel⟩ (@dB _ _ _ _ _ _ (ae 2)) (fun cl C ax aD fp=>⟨Up rfl,rfl⟩) (fun cl C ax aD fp=>⟨Up rfl,rfl⟩) (fun cl C ax aD fp=>@dB _ _ _ _ _ _ (cQ bH hr (ae 2::ae 0::ae 3::ai) (aj (aj (aj ay))))) (fun cl C ax aD fp=>ae 1) (i:=2) cz.nd rfl)\/!-ae 2
def dO:az ["n", "k", "many_with"] ["n", "k"] (ag (aA 18)):=fsc ⟨rfl,rfl,rfl⟩ (by decide +kernel)
def lX (D:aG K mg "orders_all" (aA 18)) (T:Blt mg) (bc:jC P w K mg base g "numbers_needed" 4 ["n", "k"] bf) (bN:Has P w K mg base g "counter_of" 3 ["n", "k"] bq) (bI:jC P w K mg base g "told_needed" 3 ["many"] aR) (aU:Has P w K mg base g "begun_count" 2 ["rests", "k", "begun"] aQ) (dm:Has P w K mg base g "orders_listed" 5 ["n", "many_with"] bX):jC P w K mg base g "orders_all" 6 ["n", "k"] aY:=by
 obtain⟨f,fd,hm,F⟩:=D
 obtain⟨gk,fP,bZ,bU,bS,bW,_⟩:=aU
 have TC:∀x np m,ji x=some (np,m)->∃f fd ps,mg x=some (.ref f)/\b9 P w K mg base CX0 4 f fd ps (spM K g np m)/\Om K (.ref f)=true/\Binds K fd ps []:=by
  intro x np m e
  unfold ji at e
  by_cases aN:x="begun_count"
  ·rw[if_pos aN] at e;cases e;rw[aN];exact⟨_,_,_,bW,bZ.mono (by decide),bU,bS⟩
  rw[if_neg aN] at e
  cases e
 refine⟨f,fd,BW F dO (fun cdv A outer s H E hr fl pl po=>?_),F.kp,F.binds (fun _ _ _ _ _ _ us hl=>wO hl fun _ _=>rfl),hm⟩
 have nd:=dO.nd
 exact fC (kX fl pl bc hr (↑(ae 0)::↑(ae 1)::ai) (aj (aj ay)))\/@EY _ _ _ _ _ (2 >>= cQ bN hr (ae 0::ae 1::ai) (aj (aj ay)))\/fC (kX fl pl bI hr (↑(m8 TC hr (ae 2) (~~~ai::ai) (aj ay))::ai) (aj ay))\/!@EY _ _ _ _ _ (-cQ dm hr (ae 0::ae 2::ai) (aj (aj ay)))
def dh:az ["_law_n", "_law_k", "_law_e"] ["_law_n", "_law_k"] (ag (aA 38)):=fsc ⟨rfl,rfl,rfl⟩ (by decide +kernel)
def oH (D:aG K mg "_law_told" (aA 38)) (T:Blt mg) (hgo:g=gOf mg) (CL:m9 K mg) (bz:Av P w K mg base g "_law_refused" 2 ["_law_e"] aS) (d8:jC P w K mg base g "orders_all" 6 ["n", "k"] aY):Has P w K mg base g "_law_told" 7 ["_law_n", "_law_k"] bw:=by
 obtain⟨f,fd,hm,F⟩:=D
 obtain⟨kr,jE,dC,dy,dE,dG⟩:=bz
 refine⟨f,fd,AE (vG F dh (fun cdv A outer s H E hr=>?_)),F.kp,F.binds (fun _ _ _ _ _ _ us hl=>wO hl fun _ _=>rfl),hm,c6 F⟩
 have nd:=dh.nd
 exact !FY (i:=2) CL hgo ⟨rfl,rfl,rfl⟩ dh.nd rfl rfl rfl rfl (dC.mono (by decide)) (um hr) dG dy dE (fun pn xe E fl pl po=>!-kX fl pl d8 hr (↑(ae 0)::↑(ae 1)::ai) (aj (aj ay)))
def cK:az ["_law_n", "_law_k", "_law_due", "_law_turn", "_law_found"] ["_law_n", "_law_k"] (ag (aA 39)):=fsc ⟨rfl,rfl,rfl⟩ (by decide +kernel)
def g9 (D:aG K mg "_law_small_right" (aA 39)) (T:Blt mg) (fU:Has P w K mg base g "_law_all" 1 ["_law_n"] dF) (bQ:Has P w K mg base g "_law_falls" 1 ["_law_row"] bh) (b7:Has P w K mg base g "_law_told" 7 ["_law_n", "_law_k"] bw):Has P w K mg base g "_law_small_right" 8 ["_law_n", "_law_k"] ba:=by
 obtain⟨f,fd,hm,F⟩:=D
 refine⟨f,fd,fX (vG F cK (fun cdv A outer s H E hr=>?_)),F.kp,F.binds (fun _ _ _ _ _ _ us hl=>wO hl fun _ _=>rfl),hm,c6 F⟩
 have nd:=cK.nd
 exact mT (osc:=ag (aA 39)) [1] ["_law_order", "_law_k"] rfl rfl rfl rfl (by decide +kernel) ⟨by decide +kernel,by decide +kernel,rfl,by decide +kernel,rfl,by decide +kernel⟩ (@dB _ _ _ _ _ _ (cQ fU hr (ae 0::ai) (aj ay))) (fun cl C ax aD fp=>hZ (@cS _ _ _ _ _ _ _ _ _ _ _ (iL hr.units) ng (aO cT cR rfl T.len OG (cQ bQ hr (ae 0::ai) (aj ay)::ai)) (ae 1) (cg _))) (fun cl C ax aD fp=>ae 0) (i:=2) cK.nd rfl\/fm OD rfl (dJ rfl T.range (au::ai)) (¬3) de (4 >>= cQ b7 hr (ae 0::ae 1::ai) (aj (aj ay))\/@kQ _ _ _ _ _ _ _ _ _ _ (@cS _ _ _ _ _ _ _ _ _ _ _ (kn hr.units) pV (aO (ic hr.gd hr.units) ie rfl T.repr Pn (ae 4::ai)) (aO (ic hr.gd hr.units) ie rfl T.repr Pn (@jf _ _ _ _ _ _ _ _ _ _ (aO cT cR rfl T.len OG (ae 2::ai)<au) (ae 2) (~~~(eQ::aO cT cR rfl T.len OG (ae 2::ai)::au::ai))::ai)) (cg _)) (!-jM) cy\/!@kQ _ _ _ _ _ _ _ _ _ _ (@fH _ _ _ _ _ _ jZ (r_ (ae 4) rfl T.isinstance rfl T.list PU) (fun _=>rfl)) (!fC (kx Q4 Q5 fJ kG (ae 4) (~~~ai::ai))) cy)\/!-jM
def qC:az ["_law_seed"] ["_law_seed"] (ag (aA 30)):=fsc ⟨rfl,rfl,rfl⟩ (by decide +kernel)
def oN (D:aG K mg "_law_next" (aA 30)) (T:Blt mg):Has P w K mg base g "_law_next" 1 ["_law_seed"] cX:=by
 refine iw D qC (bd1 fun _ _ _ _ _ _ _=>rfl) fun nd f cdv A outer s H E hr=>?_
 exact 0 >>= (ae 0+au) % au\/!-((ae 0*ae 0+au*ae 0+au) % au)
def qJ:az ["_law_pen", "_law_many_here", "_law_found"] ["_law_pen", "_law_many_here"] (ag (aA 32)):=fsc ⟨rfl,rfl,rfl⟩ (by decide +kernel)
def o_ (D:aG K mg "_law_draw" (aA 32)) (T:Blt mg) (dI:Has P w K mg base g "_law_next" 1 ["_law_seed"] cX):Has P w K mg base g "_law_draw" 2 ["_law_pen", "_law_many_here"] aF:=by
 refine iw D qJ (bd2 fun _ _ _ _ _ _ _ _=>rfl) fun nd f cdv A outer s H E hr=>?_
 exact @kQ _ _ _ _ _ _ _ _ _ _ (PW.pt (@GY _ _ _ _ _ _ _ _ _ (@cS _ _ _ _ _ _ _ _ _ _ _ (iL hr.units) ng (ae 0 ^ au) au (cg _)) (@DR _ _ _ _ _ _ (ae 0 ^ au > au)))) (2 >>= ae 0 ^ au % ae 1\/yd (ae 0 ^ au / ae 1) (ae 0) au set_list mX\/!-ae 2) cy\/yd (cQ dI hr ((cQ dI hr (ae 0 ^ au::ai) (aj ay)+au)::ai) (aj ay)) (ae 0) au set_list mX\/!-(ae 0 ^ au / au % ae 1)
def qF:az ["_law_n", "_law_k", "_law_ends", "_law_size", "_law_later", "_law_last", "_law_falls_here", "_law_place", "_law_there"] ["_law_n", "_law_k"] (ag (aA 37)):=fsc ⟨rfl,rfl,rfl⟩ (by decide +kernel)
def oM (D:aG K mg "_law_many" (aA 37)) (T:Blt mg):Has P w K mg base g "_law_many" 1 ["_law_n", "_law_k"] cW:=by
 refine Mk (D4 (iw D qF (bd2 fun _ _ _ _ _ _ _ _=>rfl) fun nd f cdv A outer s H E hr=>?_))
 exact 2 >>= C_ (un0 hr.units) (~~~(au::au::ai)) au\/fm OD rfl (xt rfl T.range (au::ae 0::ai)) (¬3) de (4 >>= EF\/fm OD rfl (@dB _ _ _ _ _ _ (fL (aV.frz (iJ rfl)) uK rfl T.list PU (ae 2::ai))) (vQ rfl (fM (¬5) (fM (¬6) rZ))) wb (!fm OD rfl (dJ rfl T.range ((ae 3+au)::ai)) (¬7) de (8 >>= ~~~(ae 7::(ae 6+fL pK BH rfl T.int RL (@rD _ _ _ _ _ _ _ _ _ _ _ xJ xc (ae 7) (ae 5) (cg _)::ai))::ai)\/!G9 (un1 hr.units) (Ci (un1 hr.units) (ae 4) (ae 8) au ⟨rfl,rfl,rfl,rfl⟩+yp (un1 hr.units) (ae 2) (~~~(ae 5::ae 6::ai)) (fun _ _=>rfl)) (ae 4) (ae 8)))\/!2 >>= ae 4)\/!-aO (zI rfl) HG rfl T.sum PyProof.Rows.boot_sum (eM (osc:=ag (aA 37)) [2,1] ["_law_one", "_law_ends", "_law_k"] rfl rfl rfl rfl (by decide +kernel) ⟨by decide +kernel,by decide +kernel,rfl,by decide +kernel,rfl,by decide +kernel⟩ (@dB _ _ _ _ _ _ (fL (aV.frz (iJ rfl)) uK rfl T.list PU (ae 2::ai))) (fun cl C ax aD fp=>hZ (@cS _ _ _ _ _ _ _ _ _ _ _ (iL hr.units) ng (ae 0 ^ au) (ae 2) (cg _))) (fun cl C ax aD fp=>yp (un1 hr.units) (ae 1) (ae 0) (fun _ _=>rfl))::ai)
def jk (D:aG K mg "orders_listed" (aA 27)) (T:Blt mg) (bH:Has P w K mg base g "longer_ones" 4 ["n", "begun", "many_with"] bu):Has P w K mg base g "orders_listed" 5 ["n", "many_with"] bV:=by
 refine D4 (iw D cz (bd2 fun _ _ _ _ _ _ _ _=>rfl) fun nd f cdv A outer s H E hr=>?_)
 exact 2 >>= #[~~~ai::ai]\/fm OD rfl (dJ rfl T.range (ae 0::ai)) (¬3) de (!nU (osc:=ag (aA 27)) [0,1] ["begun", "longer", "n", "many_with"] rfl rfl rfl rfl (by decide +kernel) ⟨by decide +kernel,by decide +kernel,rfl,by decide +kernel,by decide +kernel⟩ (@dB _ _ _ _ _ _ (ae 2)) (fun cl C ax aD fp=>⟨Up rfl,rfl⟩) (fun cl C ax aD fp=>⟨Up rfl,rfl⟩) (fun cl C ax aD fp=>@dB _ _ _ _ _ _ (cQ bH hr (ae 2::ae 0::ae 3::ai) (aj (aj (aj ay))))) (fun cl C ax aD fp=>ae 1) (i:=2) cz.nd rfl)\/!-ae 2
def mS (D:aG K mg "orders_all" (aA 18)) (T:Blt mg) (bc:jC P w K mg base g "numbers_needed" 4 ["n", "k"] bf) (bN:Has P w K mg base g "counter_of" 3 ["n", "k"] bq) (bI:jC P w K mg base g "told_needed" 3 ["many"] aR) (aU:Has P w K mg base g "begun_count" 2 ["rests", "k", "begun"] aQ) (c_:Has P w K mg base g "orders_listed" 5 ["n", "many_with"] bV):jC P w K mg base g "orders_all" 6 ["n", "k"] cB:=by
 obtain⟨f,fd,hm,F⟩:=D
 obtain⟨gk,fP,bZ,bU,bS,bW,_⟩:=aU
 have TC:∀x np m,ji x=some (np,m)->∃f fd ps,mg x=some (.ref f)/\b9 P w K mg base CX0 4 f fd ps (spM K g np m)/\Om K (.ref f)=true/\Binds K fd ps []:=by
  intro x np m e
  unfold ji at e
  by_cases aN:x="begun_count"
  ·rw[if_pos aN] at e;cases e;rw[aN];exact⟨_,_,_,bW,bZ.mono (by decide),bU,bS⟩
  rw[if_neg aN] at e
  cases e
 refine⟨f,fd,BW F dO (fun cdv A outer s H E hr fl pl po=>?_),F.kp,F.binds (fun _ _ _ _ _ _ us hl=>wO hl fun _ _=>rfl),hm⟩
 have nd:=dO.nd
 exact fC (kX fl pl bc hr (↑(ae 0)::↑(ae 1)::ai) (aj (aj ay)))\/@EY _ _ _ _ _ (2 >>= cQ bN hr (ae 0::ae 1::ai) (aj (aj ay)))\/fC (kX fl pl bI hr (↑(m8 TC hr (ae 2) (~~~ai::ai) (aj ay))::ai) (aj ay))\/!@EY _ _ _ _ _ (-cQ c_ hr (ae 0::ae 2::ai) (aj (aj ay)))
def oO (D:aG K mg "_law_told" (aA 38)) (T:Blt mg) (hgo:g=gOf mg) (CL:m9 K mg) (bz:Av P w K mg base g "_law_refused" 2 ["_law_e"] aS) (eI:jC P w K mg base g "orders_all" 6 ["n", "k"] cB):Has P w K mg base g "_law_told" 7 ["_law_n", "_law_k"] cZ:=by
 obtain⟨kr,jE,dC,dy,dE,dG⟩:=bz
 refine iw D dh (bd2 fun _ _ _ _ _ _ _ _=>rfl) fun nd f cdv A outer s H E hr=>?_
 exact !FY (i:=2) CL hgo ⟨rfl,rfl,rfl⟩ dh.nd rfl rfl rfl rfl (dC.mono (by decide)) (um hr) dG dy dE (fun pn xe E fl pl po=>!-kX fl pl eI hr (↑(ae 0)::↑(ae 1)::ai) (aj (aj ay)))
def eh:az ["_law_n", "_law_k", "_law_many_here", "_law_found", "_law_order", "_law_kept"] ["_law_n", "_law_k"] (ag (aA 40)):=fsc ⟨rfl,rfl,rfl⟩ (by decide +kernel)
def gJ (D:aG K mg "_law_great_right" (aA 40)) (T:Blt mg) (fE:Has P w K mg base g "_law_many" 1 ["_law_n", "_law_k"] cW) (b7:Has P w K mg base g "_law_told" 7 ["_law_n", "_law_k"] bw) (bQ:Has P w K mg base g "_law_falls" 1 ["_law_row"] bh) (fD:Has P w K mg base g "_law_told" 7 ["_law_n", "_law_k"] cZ):Has P w K mg base g "_law_great_right" 8 ["_law_n", "_law_k"] aM:=by
 obtain⟨f,fd,hm,F⟩:=D
 refine⟨f,fd,fX (vG F eh (fun cdv A outer s H E hr=>?_)),F.kp,F.binds (fun _ _ _ _ _ _ us hl=>wO hl fun _ _=>rfl),hm,c6 F⟩
 have nd:=eh.nd
 exact 2 >>= cQ fE hr (ae 0::ae 1::ai) (aj (aj ay))\/3 >>= cQ b7 hr (ae 0::ae 1::ai) (aj (aj ay))\/@kQ _ _ _ _ _ _ _ _ _ _ (ae 2 > au) (!-@rD _ _ _ _ _ _ _ _ _ _ _ (iL hr.units) ng (ae 3) (~~~(eQ::ae 2::au::ai)) (cg _)) cy\/@kQ _ _ _ _ _ _ _ _ _ _ (PW.pt (@xS _ _ _ _ _ _ _ _ _ (@mY _ _ _ _ _ _ (@fH _ _ _ _ _ _ jZ (r_ (ae 3) rfl T.isinstance rfl T.list PU) (fun _=>rfl))) (@xS _ _ _ _ _ _ _ _ _ (@cS _ _ _ _ _ _ _ _ _ _ _ (kn hr.units) pV (aO cT cR rfl T.len OG (ae 3::ai)) (ae 2) (cg _)) (@vP _ _ _ _ _ _ (@cS _ _ _ _ _ _ _ _ _ _ _ (kn hr.units) pV (ae 3) (B8 (aV.frz (uG rfl)) (zk rfl hr.units) Am rfl T.sorted PyProof.Rows.boot_sorted rfl T.set PyProof.Rows.boot_set (ae 3::ai)) (cg _)))))) (!-jM) cy\/fm OD rfl (@dB _ _ _ _ _ _ (ae 3)) (¬4) de (!@kQ _ _ _ _ _ _ _ _ _ _ (PW.pt (@xS _ _ _ _ _ _ _ _ _ (@cS _ _ _ _ _ _ _ _ _ _ _ (kn hr.units) pV (aO (ic hr.gd hr.units) ie rfl T.repr Pn (aO (aV.frz Ab) E_ rfl T.sorted PyProof.Rows.boot_sorted (ae 4::ai)::ai)) (aO (ic hr.gd hr.units) ie rfl T.repr Pn (AJ rfl rfl T.list rfl T.range (ae 0::ai)::ai)) (cg _)) (@vP _ _ _ _ _ _ (@cS _ _ _ _ _ _ _ _ _ _ _ (kn hr.units) pV (aO cT cR rfl T.len OG (cQ bQ hr (ae 4::ai) (aj ay)::ai)) (ae 1) (cg _))))) (!-jM) cy)\/5 >>= aO (ic hr.gd hr.units) ie rfl T.repr Pn (ae 3::ai)\/fC (kx Q4 Q5 fJ kG (ae 3) (~~~ai::ai))\/!-@rD _ _ _ _ _ _ _ _ _ _ _ (iL hr.units) ng (aO (ic hr.gd hr.units) ie rfl T.repr Pn (cQ fD hr (ae 0::ae 1::ai) (aj (aj ay))::ai)) (ae 5) (cg _)
def Gp:az ["_law_script", "_law_cell", "_law_pen", "_law_n", "_law_k"] ["_law_script"] (ag (aA 41)):=fsc ⟨rfl,rfl,rfl⟩ (by decide +kernel)
def Dx (D:aG K mg "law" (aA 41)) (T:Blt mg) (dD:Has P w K mg base g "_law_cell_at" 1 ["_law_script", "_law_k"] bC) (dX:Has P w K mg base g "_law_pen_of" 1 ["_law_cell"] b8) (ck:Has P w K mg base g "_law_small_right" 8 ["_law_n", "_law_k"] ba) (br:Has P w K mg base g "_law_draw" 2 ["_law_pen", "_law_many_here"] aF) (cw:Has P w K mg base g "_law_great_right" 8 ["_law_n", "_law_k"] aM):Has P w K mg base g "law" 9 ["_law_script"] nY:=by
 refine D4 (iw D Gp (bd1 fun _ _ _ _ _ _ _=>rfl) fun nd f cdv A outer s H E hr=>?_)
 exact fm OD rfl (@dB _ _ _ _ _ _ (#[cQ dD hr (ae 0::au::ai) (aj (aj ay))::ai]+CH (ae 0) (@yK _ _ _ _ _ au) (@yK _ _ _ _ _ au))) (¬1) de (2 >>= cQ dX hr (ae 1::ai) (aj ay)\/@kQ _ _ _ _ _ _ _ _ _ _ (@mY _ _ _ _ _ _ (@fH _ _ _ _ _ _ jZ (cQ ck hr ((au+cQ br hr (ae 2::au::ai) (aj (aj ay)))::cQ br hr (ae 2::#[au::au::ai] ^ cQ br hr (ae 2::au::ai) (aj (aj ay))::ai) (aj (aj ay))::ai) (aj (aj ay))) (fun _=>rfl))) (!-jM) cy\/3 >>= au+cQ br hr (ae 2::au::ai) (aj (aj ay))\/!@fm _ _ _ _ _ _ _ _ _ _ _ OD rfl (@dB _ _ _ _ _ _ (~~~(au::(ae 3 - au)::cQ br hr (ae 2::au::ai) (aj (aj ay))::#[au::(ae 3 - au)::ai] ^ cQ br hr (ae 2::au::ai) (aj (aj ay))::ai))) (¬4) de (!@kQ _ _ _ _ _ _ _ _ _ _ (@mY _ _ _ _ _ _ (@fH _ _ _ _ _ _ jZ (cQ cw hr (ae 3::ae 4::ai) (aj (aj ay))) (fun _=>rfl))) (!-jM) cy) (by intro _ ; rfl))\/!-jM
def qw:az ["self", "many", "most"] ["self", "many", "most"] (ag (bO (aA 8))):=⟨rfl,rfl,rfl,by decide +kernel,rfl,by decide +kernel,by decide +kernel⟩
def oz:∀y∈(["self", "many", "most"]:List Str),(ag (bO (aA 8))).names.lookup y=some .local:=by decide +kernel
def sy:jt (aP (bO (aA 8))) ["many", "most"]:=jt.cons rfl (jt.cons rfl (.nil))
def rF:∀(kV doc pm:NI) (an:Option Addr) (cdv ct:NI) (us:List NI),us.length=(["self", "many", "most"]:List Str).length->bindArgs (OP "__init__" "TooGreat.__init__" (cf (bO (aA 8))) (aP (bO (aA 8))) (ag (bO (aA 8))) .none kV doc pm an cdv ct) ⟨us,[]⟩=pure ((["self", "many", "most"]:List Str).zip us):=fun _ _ _ _ _ _ us hl=>GA hl fun _ _ _=>rfl
end
structure Text (K:ND) (ts:List Addr):Prop where
 mF:bK K "_law_cell_at" (aA 29)
 oG:bK K "_law_pen_of" (aA 31)
 vU:bK K "_law_all" (aA 36)
 sd:bK K "_law_falls" (aA 35)
 nW:bK K "_law_kind_of" (aA 33)
 nN:bK K "_law_refused" (aA 34)
 vj:bK K "is_whole" (aA 10)
 uP:bK K "is_within" (aA 11)
 lL:bK K "number_needed" (aA 12)
 kz:bK K "numbers_needed" (aA 19)
 oo:bK K "rest_counts" (aA 22)
 v_:bK K "rests_of" (aA 21)
 qI:bK K "counter_of" (aA 25)
 oA:bK K "told_needed" (aA 20)
 rj:bK K "lower_left" (aA 24)
 vv:bK K "falls_in" (aA 14)
 oU:bK K "begun_count" (aA 23)
 pk:bK K "longer_ones" (aA 26)
 lU:bK K "orders_listed" (aA 27)
 rk:bK K "orders_all" (aA 18)
 uC:bK K "_law_told" (aA 38)
 iU:bK K "_law_small_right" (aA 39)
 uS:bK K "_law_next" (aA 30)
 uB:bK K "_law_draw" (aA 32)
 tN:bK K "_law_many" (aA 37)
 iV:bK K "_law_great_right" (aA 40)
 Ji:bK K "law" (aA 41)
 cls:By K
 sU:CIs K "TooGreat" (aA 8) ["many", "most"]
 rK:Oz K mainGlobals "ValueError" = some none
 GI:Oz K mainGlobals "bool" = some none
 uD:Oz K mainGlobals "enumerate" = some none
 KH:Oz K mainGlobals "int" = some none
 qL:Oz K mainGlobals "isinstance" = some none
 Ky:Oz K mainGlobals "len" = some none
 IW:Oz K mainGlobals "list" = some none
 Kk:Oz K mainGlobals "max" = some none
 Ea:Oz K mainGlobals "range" = some none
 Ie:Oz K mainGlobals "repr" = some none
 Ke:Oz K mainGlobals "set" = some none
 Ce:Oz K mainGlobals "sorted" = some none
 JK:Oz K mainGlobals "sum" = some none
 Dp:Oz K mainGlobals "tuple" = some none
 fB:∃t,Oz K mainGlobals "MOST_LISTED" = some (some (Qw 12 t))
 gP:∃t,Oz K mainGlobals "MOST_TOLD" = some (some (Qw 300 t))
 bq:HY K ts "counter_of" (aA 25)
def all_mk {P:NT}{w:Oe}{K:ND}{h:Heap}{mg:Str->Option NI}{fa:Addr} (X:K.In h) (G:h.Ns mainGlobals mg) (hfa:mg "law" = some (.ref fa)){ts:List Addr} (hU:mkU K=true) (t:Text K ts) :
  ∃fd:P_,(∀(s:NM) (v:NI),TR s fd ⟨[v],[]⟩ [("_law_script", v)])/\∀base:Heap,K.In base->base.Ns mainGlobals mg->(∀P∈ts,base.BuiltinsAt mg P)->b9 P w K mg base CX0 9 fa fd ["_law_script"] (spM K (gOf mg) 1 nY):=by
 have T:Blt mg:=⟨Ol X G t.rK,Ol X G t.GI,Ol X G t.uD,Ol X G t.KH,Ol X G t.qL,Ol X G t.Ky,Ol X G t.IW,Ol X G t.Kk,Ol X G t.Ea,Ol X G t.Ie,Ol X G t.Ke,Ol X G t.Ce,Ol X G t.JK,Ol X G t.Dp⟩
 obtain⟨iC,fB⟩:=t.fB
 have dN:=R_ X G fB
 obtain⟨lz,gP⟩:=t.gP
 have fj:=R_ X G gP
 have nv:=aG.of X G t.mF
 have o9:=aG.of X G t.oG
 have vK:=aG.of X G t.vU
 have rm:=aG.of X G t.sd
 have nA:=aG.of X G t.nW
 have nJ:=aG.of X G t.nN
 have vN:=aG.of X G t.vj
 have tR:=aG.of X G t.uP
 have lR:=aG.of X G t.lL
 have jV:=aG.of X G t.kz
 have oR:=aG.of X G t.oo
 have vI:=aG.of X G t.v_
 have qY:=aG.of X G t.qI
 have oW:=aG.of X G t.oA
 have qu:=aG.of X G t.rj
 have wg:=aG.of X G t.vv
 have ow:=aG.of X G t.oU
 have oF:=aG.of X G t.pk
 have gj:=aG.of X G t.lU
 have jg:=aG.of X G t.rk
 have lB:=aG.of X G t.uC
 have i6:=aG.of X G t.iU
 have tT:=aG.of X G t.uS
 have tL:=aG.of X G t.uB
 have uI:=aG.of X G t.tN
 have iP:=aG.of X G t.iV
 have Jw:=aG.of X G t.Ji
 have CL:=m9.of X G t.cls
 have cq:=CIm.of X G t.sU
 obtain⟨f,fd,hm,F⟩:=Jw
 have e:=hfa.symm.trans hm
 cases e
 refine⟨fd,?_,fun base _ _ hBA=>?_⟩
 ·obtain⟨oc,od,kV,doc,pm,an,cdv,ct,osl,rfl,lk,hcd⟩:=F.ex
  exact fun s v=>.of_eq rfl
 ·have dD:=km (P:=P) (w:=w) (base:=base) (g:=gOf mg) nv T
  have dX:=lV (P:=P) (w:=w) (base:=base) (g:=gOf mg) o9 T
  have fU:=rR (P:=P) (w:=w) (base:=base) (g:=gOf mg) vK T
  have bQ:=nG (P:=P) (w:=w) (base:=base) (g:=gOf mg) rm T
  have dA:=kR (P:=P) (w:=w) (base:=base) (g:=gOf mg) nA T rfl CL
  have bz:=kB (P:=P) (w:=w) (base:=base) (g:=gOf mg) nJ T rfl cq dA
  have fS:=rH (P:=P) (w:=w) (base:=base) (g:=gOf mg) vN T
  have fq:=oE (P:=P) (w:=w) (base:=base) (g:=gOf mg) tR T fS
  have cb:=jx (P:=P) (w:=w) (base:=base) (g:=gOf mg) lR T rfl CL fq
  have bc:=iZ (P:=P) (w:=w) (base:=base) (g:=gOf mg) jV T dN cb
  have d9:=lY (P:=P) (w:=w) (base:=base) (g:=gOf mg) oR T
  have gc:=sf (P:=P) (w:=w) (base:=base) (g:=gOf mg) vI T d9
  have bN:=nX (P:=P) (w:=w) (base:=base) (g:=gOf mg) qY T (Ds.of X G hBA hU t.bq) gc
  have bI:=lJ (P:=P) (w:=w) (base:=base) (g:=gOf mg) oW T rfl cq fj
  have eR:=nI (P:=P) (w:=w) (base:=base) (g:=gOf mg) qu T
  have f6:=se (P:=P) (w:=w) (base:=base) (g:=gOf mg) wg T
  have aU:=lN (P:=P) (w:=w) (base:=base) (g:=gOf mg) ow T eR f6
  have bH:=lI (P:=P) (w:=w) (base:=base) (g:=gOf mg) oF T aU
  have dm:=jG (P:=P) (w:=w) (base:=base) (g:=gOf mg) gj T bH
  have d8:=lX (P:=P) (w:=w) (base:=base) (g:=gOf mg) jg T bc bN bI aU dm
  have b7:=oH (P:=P) (w:=w) (base:=base) (g:=gOf mg) lB T rfl CL bz d8
  have ck:=g9 (P:=P) (w:=w) (base:=base) (g:=gOf mg) i6 T fU bQ b7
  have dI:=oN (P:=P) (w:=w) (base:=base) (g:=gOf mg) tT T
  have br:=o_ (P:=P) (w:=w) (base:=base) (g:=gOf mg) tL T dI
  have fE:=oM (P:=P) (w:=w) (base:=base) (g:=gOf mg) uI T
  have c_:=jk (P:=P) (w:=w) (base:=base) (g:=gOf mg) gj T bH
  have eI:=mS (P:=P) (w:=w) (base:=base) (g:=gOf mg) jg T bc bN bI aU c_
  have fD:=oO (P:=P) (w:=w) (base:=base) (g:=gOf mg) lB T rfl CL bz eI
  have cw:=gJ (P:=P) (w:=w) (base:=base) (g:=gOf mg) iP T fE b7 bQ fD
  have Ex:=Dx (P:=P) (w:=w) (base:=base) (g:=gOf mg) ⟨_,_,hm,F⟩ T dD dX ck br cw
  exact IE F hm Ex
def walk {l:PySem.W.OpenLaw}{q:NT}{loose:List Str}{XP:(Str->Option NI)->Heap->Prop}{YP:Oe->Heap->Prop}{d:DefRec}{K:Params->ND}{ts:List Addr} (hn:l.most=some 63) (hdf:d.params.defaults=[])
  (hY:∀(w:Oe) (h:Heap),YP w h->(K w.params).In h) (hT:∀(w:Oe) (h:Heap),YP w h->∀P∈ts,h.get? P=some (QR #[])) (hI:∀P,Gj (K P) ts=true)
  (ok:∀ns:List Int,ns.length<=63->∃h,nY [.scr (ns.map D.int)] []=.ok (.bl true) h)
  (F:∀(w:Oe) (mg:Str->Option NI) (fa:Addr) (h:Heap),(K w.params).In h->h.Ns mainGlobals mg->mg d.name=some (.ref fa) →
   ∃fd:P_,(∀(s:NM) (u:NI),TR s fd ⟨[u],[]⟩ [("_law_script", u)])/\∀base:Heap,(K w.params).In base->base.Ns mainGlobals mg->(∀P∈ts,base.BuiltinsAt mg P)->b9 l.prog w (K w.params) mg base CX0 9 fa fd ["_law_script"] (spM (K w.params) (gOf mg) 1 nY)) :
  PySem.W.WalkO q loose XP YP l.row.toRowW d [] (fun f vs=>Uh f vs):=
 D5 (k:=9) hn hdf ⟨rfl,by decide,by decide,rfl⟩ hY hT hI ok F
def eF (h1:-(10 ^ 30)<=i) (h2:i<=10 ^ 30):sml i=true:=G5 (N4 (show i.natAbs<=10 ^ 30 by omega) (by omega))
def BJ (e:aq h n=some ds):n<h.length:=by
 unfold aq at e
 grind
def xr (e:aq h n=some ds):aq (h.set n (.lst es)) n=some es:=by
 unfold aq;rw[Rp (BJ e)]
def D6 (e:aq h n=some ds):aq (h++t) n=some ds:=by
 have:=BJ e
 unfold aq at e ⊢;grind
structure Pen where
 a:Int
 b:Int
 s:Int
noncomputable abbrev lW (p:Pen):List D:=[.int p.a,.int p.b,.int p.s]
noncomputable def nxt (x:Int):Int:=((x+7919) % 2147483647*((x+7919) % 2147483647)+48271*((x+7919) % 2147483647)+12345) % 2147483629
noncomputable def hG (p:Pen) (m:Int):Int:=if p.b=1/\0<p.a then p.a % m else nxt (nxt p.s+7) / 64 % m
noncomputable def tF (p:Pen) (m:Int):Pen:=if p.b=1/\0<p.a then ⟨p.a / m,p.b,p.s⟩ else ⟨p.a,p.b,nxt (nxt p.s+7)⟩
def D1 (p) (h:0<m):0<=hG p m:=by unfold hG;split<;>exact Int.emod_nonneg _ (by omega)
def AO (p) (h:0<m):hG p m<m:=by unfold hG;split<;>exact Int.emod_lt_of_pos _ h
@[simp] theorem L5 {x:Int}{h:Hh}:cX [.int x] h=.ok (.int (nxt x)) h:=by
 have h1:0<=(x+7919) % 2147483647:=Int.emod_nonneg _ (by decide)
 have h2:(x+7919) % 2147483647<2147483647:=Int.emod_lt_of_pos _ (by decide)
 have s1:sml ((x+7919) % 2147483647)=true:=eF (by omega) (by omega)
 have s2:sml 48271=true:=by decide +kernel
 simp[cX,bj,s1,s2,nxt]
def Gs {p:Pen}{m:Int}{h:Hh}{n:Nat} (e:aq h n=some (lW p)) (hm:0<m) (hm2:m<=10 ^ 20):aF [.ref n,.int m] h=.ok (.int (hG p m)) (h.set n (.lst (lW (tF p m)))):=by
 have s1:sml m=true:=eF (by omega) (by omega)
 have s2:sml 64=true:=by decide +kernel
 have i2:∀(x y z:Int) (h:Hh),ixK [D.int x,.int y,.int z] 2 h=.ok (.int z) h:=fun _ _ _ _=>rfl
 have n0:ixN (lW p).length 0=some 0:=rfl
 have n2:ixN (lW p).length 2=some 2:=rfl
 by_cases c:p.b=1
 ·by_cases c2:0<p.a
  ·simp[aF,bj,n5 e,c,c2,hm,s1,mC e n0,hG,tF]
  ·simp[aF,bj,n5 e,c,c2,i2,mC e n2,n5 (xr e),s1,s2,hm,hG,tF]
 ·simp[aF,bj,n5 e,c,i2,mC e n2,n5 (xr e),s1,s2,hm,hG,tF]
@[simp] theorem Ee {h t:Hh} (hm:0<m/\m<=10 ^ 20):aF [.ref h.length,.int m] (h++.lst (lW p)::t)=.ok (.int (hG p m)) (h++.lst (lW (tF p m))::t):=by
 rw[Gs bR hm.1 hm.2,ip]
noncomputable def BN (c:Int):Pen:=⟨max c (0 - c),if max c (0 - c) ≥ 10 ^ 18 then 1 else 0,max c (0 - c) % 1000003⟩
@[simp] theorem Nl {c:Int}{h:Hh}:b8 [.int c] h=.ok (.ref h.length) (h++[.lst (lW (BN c))]):=by
 have s1:sml 10=true:=by decide +kernel
 simp[b8,bj,s1,BN]
@[simp] theorem LQ {ns:List Int}{h:Hh}:bC [.scr (ns.map D.int),.int 0] h=.ok (.int (ns.headD 0)) h:=by
 cases ns with
 | nil=>simp[bC,bj]
 | cons c r=>simp[bC,bj]
@[simp] theorem Lp {i:Int}{h:Hh}:fR [.int i] h=.ok (.bl true) h:=by rfl
@[simp] theorem K9 {i a b:Int}{h:Hh}:dS [.int i,.int a,.int b] h=.ok (.bl (decide (a<=i/\i<=b))) h:=by
 by_cases z:a<=i<;>simp[dS,bj,z]
noncomputable def tJ {X:Type} (xs:List X) (lo hi:Option Int):List X:=(xs.drop (HT.sIx xs.length 0 lo)).take (HT.sIx xs.length xs.length hi - HT.sIx xs.length 0 lo)
def Cr (f) (xs:List X) (lo hi):cutD (xs.map f) lo hi=(tJ xs lo hi).map f:=by
 unfold cutD tJ
 simp
theorem iT {k:Nat}{h:Hh}:∀{ns:List Int},(∀x∈ns,sml x=true)->cV (toPy (k+1) h) (ns.map D.int)=some (ns.map P4)
 | [],_=>rfl
 | n::r,hs=>by
  have h1:sml n=true:=hs n NO
  rw[NR,cV,iT (ns:=r) fun x hx=>hs x (NH _ hx)]
  simp[toPy,h1]
theorem kI:∀ns:List Int,RF (ns.map P4)=ns.length
 | []=>rfl
 | n::r=>by rw[NR,RF,kI r,R8,OJ];omega
theorem yE (i):∀ns:List Int,((ns.map D.int).any fun d=>eqF d (.int i))=ns.any (· == i)
 | []=>rfl
 | n::r=>by rw[NR,Pf,Pf,yE i r];rfl
def zv (ns:List Int):(ns.map D.int).all eg=true:=by simp[eg]
@[simp] theorem Nf {neg:Bool}{i:Int}{ns:List Int}{h:Hh}:dIn neg (.int i) (.tup (ns.map D.int)) h=.ok (.bl (if neg then !(ns.any (· == i)) else ns.any (· == i))) h:=by
 simp only[dIn,e9,eg,zv,and_self,if_true,yE]
noncomputable def wm (xs:List Int):List Nat:=(NQ (xs.length - 1)).filter fun i=>decide (gI xs (i+1)<gI xs i)
noncomputable def bo (xs:List Int):List Int:=(wm xs).map fun(i:Nat)=>(i:Int)
def pD {xs:List Int}{h:Hh}{d:D} (hd:∀(i:Int),dIx d (.int i) h=ixK (xs.map D.int) i h):cN (aJ asB (av dGt (av dIx (af 1) (af 0)) (av dIx (af 1) (av (bY aI) (af 0) (cC (.int 1)))))) (af 0) (fun x=>[some x,some d]) (bD 0 (xs.length - 1)) h=.ok ((bo xs).map D.int) h:=by
 rw[uA (fun i=>decide (gI xs (i+1)<gI xs i)) (fun i=>D.int i)]
 ·simp[bo,wm,Pa]
 ·intro i hi
  have e1:ixK (xs.map D.int) (i:Int) h=.ok (.int (gI xs i)) h:=jr rfl (by omega)
  have e2:ixK (xs.map D.int) ((i:Int)+1) h=.ok (.int (gI xs (i+1))) h:=jr (by omega) (by omega)
  simp_all
def C9 (w:Wf h) (p):Wf (h++[.lst (lW p)]):=w.app rfl
def JY (p) (m) (h:0<m):∃k:Nat,hG p m=(k:Int)/\(k:Int)<m:=by
 have h0:=D1 p h
 have h1:=AO p h
 exact⟨(hG p m).toNat,by omega,by omega⟩
def zS (ns) (lo hi):cutD (ns.map D.int) lo hi=(tJ ns lo hi).map D.int:=Cr _ _ _ _
def Dm (xs:List X) (lo hi):(tJ xs lo hi).length<=xs.length:=by
 unfold tJ;grind
theorem qf (k:Nat) (h:Hh):∀xs ys:List Int,eqL (eqD (k+1) h) (xs.map D.int) (ys.map D.int)=some (decide (xs=ys))
 | [],[]=>rfl
 | [],y::ys=>rfl
 | x::xs,[]=>rfl
 | x::xs,y::ys=>by
  have ih:=qf k h xs ys
  have e1:eqD (k+1) h (.int x) (.int y)=some (x == y):=rfl
  simp only[NR,eqL,e1,ih]
  by_cases a:x=y<;>by_cases b:xs=ys<;>simp[a,b]
section
variable {env:En}{h:Hh}
@[simp] theorem Nw:up m env h=noR (m env h):=NS rfl rfl
@[simp] theorem BM {f:β->Hh->R γ}:(R.err x h:R β).bind f=.err x h:=NS rfl rfl
@[simp] theorem Ly:wH x env h=.err ⟨x,[]⟩ h:=NS rfl rfl
def BA (e:mb env h=.ok fl h'):oV mb mr env h=.ok fl h':=by unfold oV;rw[e]
def HI (w:Wf h) (e:mb env h=.err x h) (c:bB.contains x.cls=true) (r:mr [.exc x.cls x.fs] h=.ok d h):oV mb mr env h=.ok (.rt d) h:=by
 unfold oV
 rw[e]
 have w':(h.take h.length).all (je h.length)=true:=by rw[List.take_length];exact w
 simp_all
end
structure Ord (n) (xs:List Int):Prop where
 len:xs.length=n
 nd:xs.Nodup
 lo:∀x∈xs,0<=x
 hi:∀x∈xs,x<n
noncomputable def dQ (lo:Int) (n:Nat):List Int:=(NQ n).map fun(i:Nat)=>lo+i
def DH (lo:Int) (n:Nat):bD lo n=(dQ lo n).map D.int:=by simp[bD,dQ,Pa]
def n_ (lo) (n):(dQ lo n).length=n:=by simp[dQ]
def gO (n):Ord n (dQ 0 n):=by
 refine⟨n_ _ _,?_,?_,?_⟩
 ·unfold dQ List.Nodup
  rw[PJ]
  exact SK.imp (fun{a b} h e=>h (by omega)) SV
 ·intro x hx;simp[dQ] at hx;omega
 ·intro x hx;simp[dQ] at hx;omega
noncomputable def sg (f:Nat->Int) (n:Nat):Int:=((NQ n).map f).sum
def EV (f):sg f 0=0:=rfl
def nK (f) (n):sg f (n+1)=sg f n+f n:=by
 unfold sg
 rw[Ro,R7]
 simp
theorem gQ {f g:Nat->Int}:∀{n:Nat},(∀i,i<n->f i=g i)->sg f n=sg g n
 | 0,_=>rfl
 | n+1,h=>by rw[nK,nK,gQ fun i hi=>h i (by omega),h n (by omega)]
def qv (h:∀i,i<n->f i=0):sg f n=0:=by
 induction n with
 | zero=>rfl
 | succ n ih=>rw[nK,ih fun i hi=>h i (by omega),h n (by omega)];rfl
theorem B6 (f:Nat->Int) (p:Nat):∀q,sg f (p+q)=sg f p+sg (fun i=>f (p+i)) q
 | 0=>by simp[EV]
 | q+1=>by rw[<- Nat.add_assoc,nK,B6 f p q,nK];omega
noncomputable def lss (r:Nat) (l:Int):Int:=if (r:Int)<l then 1 else 0
noncomputable def Rn:Nat->Int->Int->Int
 | 0,_,f=>if f=0 then 1 else 0
 | m+1,l,f=>sg (fun r=>Rn m r (f - lss r l)) (m+1)
def wK (r) (l):0<=lss r l/\lss r l<=1:=by unfold lss;omega
theorem wB:∀(m:Nat) (l f:Int),f<0->Rn m l f=0
 | 0,l,f,h=>if_neg (by omega)
 | m+1,l,f,h=>qv fun r _=>wB m r _ (by have:=wK r l;omega)
theorem vW:∀(m:Nat) (l f:Int),(m:Int)<f->Rn m l f=0
 | 0,l,f,h=>if_neg (by omega)
 | m+1,l,f,h=>qv fun r _=>vW m r _ (by have:=wK r l;omega)
theorem FV {f:Nat->Int}{B:Nat}:∀{n:Nat},(∀i,i<n->0<=f i/\f i<=B)->0<=sg f n/\sg f n<=(n*B:Nat)
 | 0,_=>by simp[EV]
 | n+1,h=>by
  have ih:=FV (n:=n) fun i hi=>h i (by omega)
  have:=h n (by omega)
  rw[nK,Nat.succ_mul]
  omega
noncomputable def Ih:Nat->Nat
 | 0=>1
 | n+1=>(n+1)*Ih n
theorem Gh:∀(m:Nat) (l f:Int),0<=Rn m l f/\Rn m l f<=Ih m
 | 0,l,f=>by unfold Rn Ih;omega
 | m+1,l,f=>FV fun r _=>Gh m r _
noncomputable def cL (m:Nat) (l:Int):List Int:=(NQ (m+1)).map fun(f:Nat)=>Rn m l f
def g8 (m:Nat) (l:Int):(cL m l).length=m+1:=by simp[cL]
def sj (h:f<=m):gI (cL m l) f=Rn m l f:=by
 rw[dg (by rw[g8];omega)];simp[cL]
noncomputable def c3 (m:Nat):List (List Int):=(NQ (m+1)).map fun(l:Nat)=>cL m l
def uL (m:Nat):(c3 m).length=m+1:=by simp[c3]
noncomputable def f1 (xs:List Int):D:=.frl (xs.map D.int)
noncomputable def f2 (xss:List (List Int)):D:=.frl (xss.map f1)
def IZ (hj:j<l.length):gI (l.set i v) j=if i=j then v else gI l j:=by
 rw[dg (by simp_all),dg hj,List.getElem_set]
def F7 (h:xs.length=ys.length) (e:∀i,i<xs.length->gI xs i=gI ys i):xs=ys:=by
 refine RN h fun i h1 h2=>?_
 have:=e i h1
 rwa [dg h1,dg h2] at this
def Ht {j:Nat} (e:aq h n=some (ns.map D.int)) (hi:i=(j:Int)) (hj:j<ns.length):CY (.ref n) (.int i) h=.ok (.int (gI ns j)) h:=by
 have:=jr (ns:=ns) (h:=h) hi hj
 delta CY;dsimp only;rw[n5 e];omega
def Ew (L:List (List Int)):eJ (L.map f1)=(NQ L.length).map fun(i:Nat)=>D.tup [.int i,f1 (L.getD i [])]:=by
 unfold eJ
 simp_all
noncomputable def RIB:MS:=(qP (af 2) (av (bY aI) (af 6) (af 5)) (af 7))
noncomputable def ROB:MS:=(aH (aW 5 (cIf (aJ asB (av dLt (af 3) (af 1))) (cC (.int 1)) (cC (.int 0)))) (cx (ku (af 4)) (gT2 6 7) RIB))
def Ku:bL=fun ds h=>((bF 8 (aH (aW 2 (av (sJ jW) (ah (dw aI) (aa (cC (.int 0)) ak)) (av (bY aI) (ah cU (aa (af 0) ak)) (cC (.int 1))))) (aH (cx (ku (af 0)) (gT2 3 4) ROB) (a9 (af 2))))) ds h).bind (bg h):=rfl
def AU {m i:Nat}{l:Int}{c:List Int}{h:Hh}{d0 d1 d3 d4 y6 y7:Option D} (hc:c.length=m+2) (hi:i<=m) (hm:m<=20):∃c' y6' y7',c'.length=m+2/\(∀f,f<m+2->gI c' f=gI c f+Rn m i ((f:Int) - lss i l))/\cI (gT2 6 7) RIB (eJ ((cL m i).map D.int)) [d0,d1,some (.ref h.length),d3,d4,some (.int (lss i l)),y6,y7] (h++[.lst (c.map D.int)])=.ok (.nx [d0,d1,some (.ref h.length),d3,d4,some (.int (lss i l)),y6',y7']) (h++[.lst (c'.map D.int)]):=by
 have l01:=wK i l
 obtain⟨t,ht⟩:∃t:Nat,lss i l=(t:Int):=⟨(lss i l).toNat,by omega⟩
 have t1:t<=1:=by omega
 rw[ht,zy,g8]
 obtain⟨q,q2⟩:=yj (σ:=List Int × Option D × Option D) (tg:=gT2 6 7) (body:=RIB) (fun(j:Nat)=>D.tup [.int j,.int (gI (cL m i) j)]) (m+1) (fun s=>[d0,d1,some (.ref h.length),d3,d4,some (.int t),s.2.1,s.2.2]) (fun s=>h++[.lst (s.1.map D.int)]) (fun s j=>(s.1.set (j+t) (gI s.1 (j+t)+gI (cL m i) j),some (.int j),some (.int (gI (cL m i) j))))
  (fun j s=>s.1.length=m+2/\∀f,f<m+2->gI s.1 f=gI c f+if (f:Int) - t<j then Rn m i ((f:Int) - t) else 0) (c,y6,y7) ⟨hc,fun f hf=>by
   by_cases z:(f:Int) - t<((0:Nat):Int)
   ·rw[if_pos z,wB _ _ _ (by omega)];simp
   grind⟩ (fun j s hj ⟨sl,sv⟩=>by
   refine⟨⟨by simp[sl],fun f hf=>?_⟩,.inl ?_⟩
   ·dsimp only
    rw[IZ (by omega)]
    by_cases e:j+t=f
    ·subst e
     rw[if_pos rfl,sv _ hf,sj (by omega),if_neg (by omega),if_pos (by omega),show(((j+t:Nat):Int)) - t=j by omega]
     omega
    grind
   ·have ij:(j:Int)+(t:Int)=((j+t:Nat):Int):=by omega
    have x1:=Ht (n:=h.length) (ns:=s.1) (i:=((j+t:Nat):Int)) (j:=j+t) (h:=h++[.lst (s.1.map D.int)]) bR rfl (by omega)
    have n2:ixN (s.1.map D.int).length ((j+t:Nat):Int)=some (j+t):=by rw[NY];exact E3 rfl (by omega)
    have st:f_ (.ref h.length) (.int ((j+t:Nat):Int)) (.int (gI s.1 (j+t)+gI (cL m i) j)) (h++[.lst (s.1.map D.int)])=.ok () (h++[.lst ((s.1.set (j+t) (gI s.1 (j+t)+gI (cL m i) j)).map D.int)]):=by
     rw[mC bR n2,ip,List.map_set]
    generalize gI (cL m i) j=v at *
    generalize ((j+t:Nat):Int)=w at *
    generalize j+t=w' at *
    simp[RIB,ij,x1,st])
 obtain⟨sl,sv⟩:=q2
 exact⟨_,_,_,sl,fun f hf=>by
  rw[sv f hf]
  by_cases z:(f:Int) - t<((m+1:Nat):Int)
  ·omega
  ·rw[if_neg z,vW _ _ _ (by omega)],q⟩
def DE {m:Nat}{l:Int}{h:Hh} (hm:m<=20) (w:Wf h):bL [f2 (c3 m),.int l] h=.ok (f1 (cL (m+1) l)) h:=by
 have key:∀(j i:Nat) (c:List Int) (y3 y4 y5 y6 y7:Option D),i+j=m+1->c.length=m+2->(∀f,f<m+2->gI c f=sg (fun r=>Rn m r ((f:Int) - lss r l)) i)->∃c' z3 z4 z5 z6 z7,c'.length=m+2/\(∀f,f<m+2->gI c' f=sg (fun r=>Rn m r ((f:Int) - lss r l)) (m+1)) ∧
   cI (gT2 3 4) ROB ((SH i j).map fun(i:Nat)=>D.tup [.int i,f1 (cL m i)]) [some (f2 (c3 m)),some (.int l),some (.ref h.length),y3,y4,y5,y6,y7] (h++[.lst (c.map D.int)])=.ok (.nx [some (f2 (c3 m)),some (.int l),some (.ref h.length),z3,z4,z5,z6,z7]) (h++[.lst (c'.map D.int)]):=by
  intro j
  induction j with
  | zero=>
   intro i c y3 y4 y5 y6 y7 e hc hv
   have:i=m+1:=by omega
   subst this
   exact⟨c,y3,y4,y5,y6,y7,hc,hv,rfl⟩
  | succ j ih=>
   intro i c y3 y4 y5 y6 y7 e hc hv
   obtain⟨c1,z6,z7,l1,v1,q1⟩:=AU (m:=m) (i:=i) (l:=l) (c:=c) (h:=h) (d0:=some (f2 (c3 m))) (d1:=some (.int l)) (d3:=some (.int i)) (d4:=some (f1 (cL m i))) (y6:=y6) (y7:=y7) hc (by omega) hm
   obtain⟨c',w3,w4,w5,w6,w7,lc,vc,qc⟩:=ih (i+1) c1 (some (.int i)) (some (f1 (cL m i))) (some (.int (lss i l))) z6 z7 (by omega) l1 (fun f hf=>by rw[v1 f hf,hv f hf,nK])
   refine⟨c',w3,w4,w5,w6,w7,lc,vc,?_⟩
   rw[List.range'_succ,NR,fK]
   have b:ROB [some (f2 (c3 m)),some (.int l),some (.ref h.length),some (.int i),some (f1 (cL m i)),y5,y6,y7] (h++[.lst (c.map D.int)])=.ok (.nx [some (f2 (c3 m)),some (.int l),some (.ref h.length),some (.int i),some (f1 (cL m i)),some (.int (lss i l)),z6,z7]) (h++[.lst (c1.map D.int)]):=by
    have eE:sT (f1 (cL m i)) (h++[.lst (c.map D.int)])=.ok (.snap (eJ ((cL m i).map D.int))) (h++[.lst (c.map D.int)]):=rfl
    by_cases z:(i:Int)<l
    ·have le:lss i l=1:=if_pos z
     rw[le] at q1 ⊢
     simp[ROB,z,eE,q1]
    ·have le:lss i l=0:=if_neg z
     rw[le] at q1 ⊢
     simp[ROB,z,eE,q1]
   simp[b,qc]
 obtain⟨c',z3,z4,z5,z6,z7,lc,vc,q⟩:=key (m+1) 0 (N1 (m+2) 0) none none none none none (by omega) (by simp) (fun f hf=>by rw[EV,dg (by simp_all)];simp)
 have ce:c'=cL (m+1) l:=F7 (by rw[lc,g8]) fun f hf=>by
  rw[lc] at hf
  rw[vc f hf,sj (by omega)];rfl
 subst ce
 have en:sT (f2 (c3 m)) (h++[.lst (N1 (m+2) (.int 0))])=.ok (.snap ((SH 0 (m+1)).map fun(i:Nat)=>D.tup [.int i,f1 (cL m i)])) (h++[.lst (N1 (m+2) (.int 0))]):=by
  show R.ok (Src.snap (eJ ((c3 m).map f1))) _=_
  rw[Ew,uL,<- Qa]
  congr 2
  refine O8 fun i hi=>?_
  have hi:=O1.mp hi
  simp[c3,hi]
 have ex:=qm (h:=h) (ds:=(cL (m+1) l).map D.int) (t:=[]) w (by simp)
 have ll:cU [f2 (c3 m)] h=.ok (.int ((m+1:Nat):Int)) h:=by
  show R.ok (D.int (((c3 m).map f1).length:Int)) h=_
  rw[NY,uL]
 have z1:(((m+1:Nat):Int)+1).toNat=m+2:=by omega
 have z2:m+2<=1000000:=by omega
 have z3:(((m+1:Nat):Int)+1).natAbs<=1000000:=by omega
 have z4:1<=(((m+1:Nat):Int)+1):=by omega
 rw[List.map_replicate] at q
 rw[Ku]
 generalize f2 (c3 m)=FT at *
 show _=R.ok (D.frl ((cL (m+1) l).map D.int)) h
 generalize (cL (m+1) l).map D.int=W at *
 simp[-R9,bj,ll,z1,z2,z3,z4,en,q,ex]
noncomputable def rsD (k:Nat):List D:=(NQ (k+1)).map fun j=>f2 (c3 j)
def JS (k:Nat):rsD (k+1)=rsD k++[f2 (c3 (k+1))]:=by simp[rsD,Ro]
def rf (k):(rsD k).length=k+1:=by simp[rsD]
def Hw {k j:Nat} (e:i=(j:Int)) (hj:j<=k):ixK (rsD k) i h=.ok (f2 (c3 j)) h:=jb e (by rw[rsD,Oh,R1 (by omega)];rfl)
def Ep:ixK (rsD k) (-1) h=.ok (f2 (c3 k)) h:=by
 have e:ixN (rsD k).length (-1)=some k:=by rw[rf];unfold ixN;grind
 unfold ixK atI
 rw[e]
 have:(rsD k)[k]?=some (f2 (c3 k)):=by simp[rsD]
 grind
noncomputable def RSB:MS:=(eB (dZ di (af 1) (aa (c7 aI (dY fw (aa (av (bY aI) (af 2) (cC (.int 1))) ak)) [1] tt1 (ah bL (aa (av dIx (af 1) (cUn vf (cC (.int 1)))) (aa (af 0) ak)))) ak)))
def Kt:eL=fun ds h=>((bF 3 (aH (aW 1 (ah (dw jW) (aa (ah (dw aI) (aa (ah (dw aI) (aa (cC (.int 1)) ak)) ak)) ak))) (aH (cx (dY qT (aa (cC (.int 1)) (aa (av (bY aI) (af 0) (cC (.int 1))) ak))) (gN 2) RSB) (a9 (af 1))))) ds h).bind (bg h):=rfl
def Bw {n:Nat}{h:Hh} (hn:n<=12) (w:Wf h):eL [.int n] h=.ok (.frl (rsD n)) h:=by
 have low:∀k j,a8 j (rsD k)=true:=fun k j=>kN fun d hd=>by
  obtain⟨i,_,rfl⟩:=Ov.mp hd
  show a8 j ((c3 i).map f1)=true
  exact kf fun b=>by show a8 j (b.map D.int)=true;simp
 obtain⟨q,e⟩:=BU (σ:=Nat × Option D) (tg:=gN 2) (body:=RSB) 1 n (fun s=>[some (.int n),some (.ref h.length),s.2]) (fun s=>h++[.lst (rsD s.1)]) (fun s i=>(i+1,some (.int (1+i)))) (fun i s=>s.1=i) (0,none) rfl (fun i s hi hs=>⟨rfl,.inl (by
   subst hs
   obtain⟨i,y⟩:=s
   dsimp only at hi ⊢
   have c:cN tt1 (ah bL (aa (av dIx (af 1) (cUn vf (cC (.int 1)))) (aa (af 0) ak))) (fun x=>[some x,some (.ref h.length)]) (bD 0 (i+2)) (h++[.lst (rsD i)])=.ok ((c3 (i+1)).map f1) (h++[.lst (rsD i)]):=by
    have w2:Wf (h++[.lst (rsD i)]):=w.app (by show a8 _ _=true;simp_all)
    rw[Ah (fun j=>f1 (cL (i+1) j)) (fun j hj=>by
     have r:=DE (m:=i) (l:=(j:Int)) (h:=h++[.lst (rsD i)]) (by omega) w2
     simp[Ep,r]),c3,Pa]
    rfl
   have z1:(1+(i:Int)+1).natAbs<=1000000:=by omega
   have z2:(1+(i:Int)+1).toNat=i+2:=by omega
   have z3:i+2<=1000000:=by omega
   have z4:(rsD i).length<1000000:=by rw[rf];omega
   rw[JS]
   show _=R.ok (Fl.nx [some (.int n),some (.ref h.length),some (.int (1+i))]) (h++[.lst (rsD i++[.frl ((c3 (i+1)).map f1)])])
   generalize (c3 (i+1)).map f1=W at *
   generalize rsD i=V at *
   simp[RSB,z1,z2,z3,z4,c])⟩)
 generalize Ug _ _ _=s9 at q e
 obtain⟨i9,y9⟩:=s9
 dsimp only at q e
 subst e
 have dp:(rsD i9).all (deep 7)=true:=by
  rw[NZ]
  intro d hd
  obtain⟨j,_,rfl⟩:=Ov.mp hd
  simp[f2,f1,deep,NZ]
 have ex:=qm (h:=h) (ds:=rsD i9) (t:=[]) w dp
 have r0:rsD 0=[.frl [.frl [.int 1]]]:=rfl
 rw[r0] at q
 have z1:(i9:Int)+1 - 1=i9:=by omega
 have z2:i9<=1000000:=by omega
 have z3:((i9:Int)+1).natAbs<=1000000:=by omega
 rw[Kt]
 generalize rsD i9=V at *
 simp[bj,z1,z2,z3,q,ex]
structure Beg (n) (xs:List Int):Prop where
 len:xs.length<=n
 nd:xs.Nodup
 lo:∀x∈xs,0<=x
 hi:∀x∈xs,x<n
def Beg.nil (n:Nat):Beg n []:=⟨OI _,Ti,fun _ h=>(nomatch h),fun _ h=>(nomatch h)⟩
noncomputable def hV (r:Int->Bool) (l:List Int):Nat:=(l.filter r).length
def fN (r) (x) (l):hV r (x::l)=(if r x=true then 1 else 0)+hV r l:=by
 unfold hV;grind
theorem Aq (r:Int->Bool) (v):∀l:List Int,hV (fun x=>r x&&decide (x<v+1)) l=hV (fun x=>r x&&decide (x<v)) l+hV (fun x=>r x&&decide (x=v)) l
 | []=>rfl
 | x::l=>by
  rw[fN,fN,fN,Aq r v l]
  grind
theorem wF {r:Int->Bool}:∀{l:List Int},(∀x∈l,r x=false)->hV r l=0
 | [],_=>rfl
 | x::l,h=>by rw[fN,h x NO,wF fun y hy=>h y (NH _ hy)];rfl
theorem wj {r:Int->Bool}{v:Int}:∀{l:List Int},l.Nodup->hV (fun x=>r x&&decide (x=v)) l=if v∈l/\r v=true then 1 else 0
 | [],_=>by rfl
 | x::l,nd=>by
  obtain⟨n1,n2⟩:=Ox.mp nd
  rw[fN,wj n2]
  grind
theorem rh {n:Nat}{xs:List Int} (b:Beg n xs):∀v:Nat,v<=n->hV (fun x=>!(xs.any (· == x))&&decide (x<(v:Int))) (dQ 0 n)+hV (fun x=>true&&decide (x<(v:Int))) xs=v
 | 0,_=>by
  rw[wF,wF]
  ·intro x hx;have:=b.lo x hx;grind
  ·intro x hx;have:=(gO n).lo x hx;grind
 | v+1,hv=>by
  have ih:=rh b v (by omega)
  have e:((v+1:Nat):Int)=(v:Int)+1:=by omega
  rw[e,Aq,Aq,wj (gO n).nd,wj b.nd]
  have m:(v:Int)∈dQ 0 n:=Ov.mpr ⟨v,O1.mpr (by omega),by omega⟩
  grind
noncomputable def cE (xs:List Int):Int:=gI xs (xs.length - 1)
noncomputable def lwI (xs:List Int):Int:=if xs.length=0 then 0 else cE xs - ((xs.filter fun x=>decide (x<cE xs)).length:Int)
noncomputable def bE (n:Nat) (xs:List Int):List Int:=(dQ 0 n).filter fun x=>!(xs.any (· == x))
def Eu (h:xs.length≠0):cE xs∈xs:=by
 unfold cE;rw[dg (by omega)];simp
def gD (b:Beg n xs):(bE n xs).length=n - xs.length:=by
 have:=rh b n (NK _)
 have e1:hV (fun x=>!(xs.any (· == x))&&decide (x<(n:Int))) (dQ 0 n)=(bE n xs).length:=by
  unfold hV bE
  rw[RB]
  intro x hx;have:=(gO n).hi x hx;grind
 have e2:hV (fun x=>true&&decide (x<(n:Int))) xs=xs.length:=by
  unfold hV
  rw[R4.mpr]
  intro x hx;have:=b.hi x hx;grind
 omega
def mV (b:Beg n xs) (h:xs.length≠0):(((bE n xs).filter fun x=>decide (x<cE xs)).length:Int)=lwI xs:=by
 have m:=Eu h
 have h0:=b.lo _ m
 have h1:=b.hi _ m
 have:=rh b (cE xs).toNat (by omega)
 rw[show(((cE xs).toNat:Nat):Int)=cE xs by omega] at this
 have e1:hV (fun x=>!(xs.any (· == x))&&decide (x<cE xs)) (dQ 0 n)=((bE n xs).filter fun x=>decide (x<cE xs)).length:=by
  unfold hV bE
  rw[Sf]
  congr 2
  grind
 have e2:hV (fun x=>true&&decide (x<cE xs)) xs=(xs.filter fun x=>decide (x<cE xs)).length:=by
  rfl
 unfold lwI
 omega
def Jl (b:Beg n xs):0<=lwI xs/\lwI xs<=((n - xs.length:Nat):Int):=by
 by_cases h:xs.length=0
 ·unfold lwI;omega
 ·rw[<- mV b h,<- gD b]
  grind
def Beg.snoc (b:Beg n xs) (h:x∈bE n xs):Beg n (xs++[x]):=by
 obtain⟨h1,h2⟩:=Qc.mp h
 have nx:x∉xs:=fun z=>by
  grind
 have l:=gD b
 have lp:=List.length_pos_of_mem h
 refine⟨by grind,List.nodup_append.mpr ⟨b.nd,Ox.mpr ⟨by simp,Ti⟩,fun a ha c hc=>?_⟩,fun y hy=>?_,fun y hy=>?_⟩
 ·simp_all
 ·rcases Ou.mp hy with z | z
  ·exact b.lo y z
  ·simp at z;subst z;exact(gO n).lo _ h1
 ·rcases Ou.mp hy with z | z
  ·exact b.hi y z
  ·simp at z;subst z;exact(gO n).hi _ h1
noncomputable def bcV (n:Nat) (k:Int) (xs:List Int):Int:=Rn (n - xs.length) (lwI xs) (k - ((bo xs).length:Int))
def Ge:0<=bcV n k xs:=(Gh _ _ _).1
def BE (h1:xs.length≠0):ixK (xs.map D.int) (-1) h=.ok (.int (cE xs)) h:=by
 have e:ixN (xs.map D.int).length (-1)=some (xs.length - 1):=by rw[NY];unfold ixN;grind
 unfold ixK atI cE
 rw[e]
 simp[N0 (show xs.length - 1<xs.length by omega),dg (show xs.length - 1<xs.length by omega)]
def Df {xs:List Int}{h:Hh} (hl:xs.length<=1000):dq [.tup (xs.map D.int)] h=.ok (.int (lwI xs)) h:=by
 unfold lwI
 by_cases c:xs.length=0
 ·have:xs=[]:=OM c
  subst this
  rfl
 ·rw[if_neg c]
  have c':¬ (xs.length:Int)=0:=by omega
  have ix:=fun H:Hh=>BE (h:=H) c
  have q:cN (aJ asB (av dLt (af 0) (av dIx (af 1) (cUn vf (cC (.int 1)))))) (af 0) (fun x=>[some x,some (.tup (xs.map D.int))]) (xs.map D.int) h=.ok ((xs.filter fun x=>decide (x<cE xs)).map D.int) h:=
   comp_map D.int (fun x=>decide (x<cE xs)) D.int xs fun x hx=>⟨by simp[ix],fun _=>by simp⟩
  have c0:¬ xs=[]:=fun z=>c (by grind)
  have z6:xs.length<=1000000:=by omega
  simp[dq,bj,c,c',c0,ix,q,z6]
def Dk {xs:List Int}{h:Hh} (hl:xs.length<=1000):eT [.tup (xs.map D.int)] h=.ok (.tup ((bo xs).map D.int)) h:=by
 by_cases c:xs.length=0
 ·have:xs=[]:=OM c
  subst this
  rfl
 ·have z1:((xs.length:Int) - 1).natAbs<=1000000:=by omega
  have z2:((xs.length:Int) - 1).toNat=xs.length - 1:=by omega
  have z3:xs.length - 1<=1000000:=by omega
  have q:=pD (xs:=xs) (h:=h) (d:=.tup (xs.map D.int)) (fun i=>FU)
  simp[eT,bj,z1,z2,z3,q]
def Kf {n:Nat}{k:Int}{xs:List Int}{h:Hh} (b:Beg n xs) (hn:n<=12):aQ [.frl (rsD n),.int k,.tup (xs.map D.int)] h=.ok (.int (bcV n k xs)) h:=by
 unfold bcV
 have bl:=b.len
 obtain⟨l0,l1⟩:=Jl b
 obtain⟨m,hm⟩:∃m,n - xs.length=m:=⟨_,rfl⟩
 rw[hm] at l1 ⊢
 have lo:=Df (xs:=xs) (h:=h) (by omega)
 have fa:=Dk (xs:=xs) (h:=h) (by omega)
 have r1:ixK (rsD n) ((n:Int) - xs.length) h=.ok (f2 (c3 m)) h:=Hw (by omega) (by omega)
 generalize lwI xs=a at *
 have r2:dIx (f2 (c3 m)) (.int a) h=.ok (f1 (cL m a)) h:=by
  show ixK ((c3 m).map f1) a h=_
  refine jb (j:=a.toNat) (by omega) ?_
  rw[Oh,c3,Oh,R1 (by omega)]
  grind
 have ll:cU [f1 (cL m a)] h=.ok (.int ((m:Int)+1)) h:=by
  show R.ok (D.int (((cL m a).map D.int).length:Int)) h=_
  rw[NY,g8]
  rfl
 have lr:(rsD n).length=n+1:=rf n
 have zn:((n+1:Nat):Int) - 1 - xs.length=(n:Int) - xs.length:=by omega
 obtain⟨F,hF⟩:∃F:Int,k - ((bo xs).length:Int)=F:=⟨_,rfl⟩
 rw[hF]
 by_cases c:0<=F/\F<(m:Int)+1
 ·have ix:dIx (f1 (cL m a)) (.int F) h=.ok (.int (Rn m a F)) h:=by
   show ixK ((cL m a).map D.int) F h=_
   rw[jr (j:=F.toNat) (by omega) (by rw[g8];omega),sj (by omega),show((F.toNat:Nat):Int)=F by omega]
  generalize f1 (cL m a)=W at *
  generalize f2 (c3 m)=V at *
  simp[-R9,aQ,bj,lr,zn,r1,lo,r2,fa,hF,ll,c.1,c.2,ix]
 ·have e0:Rn m a F=0:=by
   by_cases c0:0<=F
   ·exact vW _ _ _ (by omega)
   ·exact wB _ _ _ (by omega)
  rw[e0]
  generalize f1 (cL m a)=W at *
  generalize f2 (c3 m)=V at *
  by_cases c0:0<=F
  ·have c1:¬ F<(m:Int)+1:=fun z=>c ⟨c0,z⟩
   simp[-R9,aQ,bj,lr,zn,r1,lo,r2,fa,hF,ll,c0,c1]
  ·simp[-R9,aQ,bj,lr,zn,r1,lo,r2,fa,hF,ll,c0]
def kA {n:Nat}{k:Int}{h:Hh} (hn:n<=12) (w:Wf h):bq [.int n,.int k] h=.ok (.clo "begun_count" [.frl (rsD n),.int k]) h:=by
 have r:=Bw (n:=n) (h:=h) hn w
 delta bq Ey
 simp[r,vz]
def ER:fV tab f a env h=(f env h).bind fun d h1=>match d with
 | .clo x ds=>match tab x with
  | some (np,m)=>if ds.length+1=np then (a env h1).bind fun es h2=>m (ds++es) h2 else .bad
  | none=>.bad
 | _=>.bad:=rfl
noncomputable def tpl (xs:List Int):D:=.tup (xs.map D.int)
def yV {n:Nat}{xs:List Int}{h:Hh} (hl:xs.length<=1000):cN (aJ asB (av (dIn true) (af 0) (af 1))) (av (bY aI) (af 1) (ah cn (aa (af 0) ak))) (fun x=>[some x,some (.tup (xs.map D.int))]) (bD 0 n) h=.ok ((bE n xs).map fun x=>tpl (xs++[x])) h:=by
 rw[DH,comp_map D.int (fun x=>!(xs.any (· == x))) (fun x=>tpl (xs++[x])) (dQ 0 n) fun x hx=>⟨by simp,fun _=>by
  have z:xs.length+1<=1000000:=by omega
  simp[tpl,z]⟩]
 rfl
def Fn {σ:Type} (enc:Nat->D) (N) (E:σ->En) (G:σ->Hh) (I:Nat->σ->Prop) (hr:∀s i,i<N->rd (G s) i=some (some (enc i))) (hr2:∀s,rd (G s) N=some none)
  (st:∀i s,i<N->I i s->∃s',I (i+1) s'/\(tg (enc i) (E s) (G s)).bind body=.ok (.nx (E s')) (G s')) :
  ∀k i s , i+k=N->I i s->∃s',eX rd tg body k i (E s) (G s)=.ok (.nx (E s')) (G s')/\I N s':=by
 intro k
 induction k with
 | zero=>
  intro i s e hi
  have:i=N:=by omega
  subst this
  refine⟨s,?_,hi⟩
  unfold eX
  rw[hr2]
 | succ k ih=>
  intro i s e hi
  obtain⟨s1,a,b⟩:=st i s (by omega) hi
  obtain⟨s2,c,d⟩:=ih (i+1) s1 (by omega) a
  refine⟨s2,?_,d⟩
  unfold eX
  rw[hr s i (by omega)]
  show(tg (enc i) (E s) (G s)).bind (fun e1 h1=>(body e1 h1).bind _)=_
  rw[<- bA,b]
  exact c
def qB {σ:Type} (enc) (N) (E:σ->En) (G:σ->Hh) (I:Nat->σ->Prop)
  (st:∀i s,i<N->I i s->∃s',I (i+1) s'/\(tg (enc i) (E s) (G s)).bind body=.ok (.nx (E s')) (G s')) :
  ∀k i s , i+k=N->I i s->∃s',cI tg body ((SH i k).map enc) (E s) (G s)=.ok (.nx (E s')) (G s')/\I N s':=by
 intro k
 induction k with
 | zero=>
  intro i s e hi
  have:i=N:=by omega
  subst this
  exact⟨s,rfl,hi⟩
 | succ k ih=>
  intro i s e hi
  obtain⟨s1,a,b⟩:=st i s (by omega) hi
  obtain⟨s2,c,d⟩:=ih (i+1) s1 (by omega) a
  refine⟨s2,?_,d⟩
  rw[List.range'_succ,NR,cI,<- bA,b]
  exact c
theorem vB {v:Int}:∀{L:List Int},L.Pairwise (· < ·)->∀(r:Nat) (hr:r<L.length),L[r]<v↔r<(L.filter fun x=>decide (x<v)).length
 | [],_,r,hr=>by grind
 | a::L,so,r,hr=>by
  obtain⟨h1,h2⟩:=Oi.mp so
  by_cases c:a<v
  ·rw[Py,if_pos (by simp_all),OJ]
   cases r with
   | zero=>simp[c]
   | succ r=>
    have:=vB (v:=v) h2 r (by simp_all)
    simp_all
  ·have e:(a::L).filter (fun x=>decide (x<v))=[]:=by
    rw[Rv]
    grind
   rw[e]
   have:¬ (a::L)[r]<v:=by
    have hm:=RP hr
    grind
   grind
def K7 {L:List Int} (so:L.Pairwise (· < ·)) (r) (hr):(L.filter fun x=>decide (x<L[r])).length=r:=by
 have h:=fun s hs=>vB (v:=L[r]) so s hs
 have lt:∀s (hs:s<L.length),L[s]<L[r]↔s<r:=fun s hs=>by
  constructor
  ·grind
  ·intro z;exact NW.mp so s r hs hr z
 generalize (L.filter fun x=>decide (x<L[r])).length=c at h
 by_cases c1:c<r
 ·grind
 grind
def JT (n):(dQ 0 n).Pairwise (· < ·):=by
 unfold dQ
 rw[PJ]
 exact SK.imp (fun{a b} h=>by omega) List.pairwise_lt_range
def xi (n) (xs):(bE n xs).Pairwise (· < ·):=(JT n).filter _
def zF:bE n (xs++[x])=(bE n xs).filter fun y=>!(x == y):=by
 unfold bE
 rw[Sf]
 grind
def qy (h:i<xs.length):gI (xs++ys) i=gI xs i:=by
 rw[dg (by grind),dg h,List.getElem_append_left h]
def Cw:gI (xs++[x]) xs.length=x:=by
 rw[dg (by simp),List.getElem_append_right (NK _)];simp
def zK:cE (xs++[x])=x:=by
 unfold cE;rw[OF];exact Cw
def wN:(bo (xs++[x])).length=(bo xs).length+(if xs.length≠0/\x<cE xs then 1 else 0):=by
 unfold bo wm
 rw[NY,NY,OF]
 show((NQ xs.length).filter _).length=_
 cases hl:xs.length with
 | zero=>simp
 | succ m=>
  rw[Ro,List.filter_append,OF,show m+1 - 1=m from rfl]
  congr 1
  ·congr 1
   refine RB fun i hi=>?_
   have hi:=O1.mp hi
   rw[qy (by omega),qy (by omega)]
  ·have e1:gI (xs++[x]) (m+1)=x:=by rw[<- hl];exact Cw
   have e2:gI (xs++[x]) m=cE xs:=by unfold cE;rw[qy (by omega),hl];rfl
   grind
structure Cnt (n) (B:List Int->Int):Prop where
 pos:∀xs,Beg n xs->0<=B xs
 sum:∀xs,Beg n xs->xs.length<n->B xs=((bE n xs).map fun x=>B (xs++[x])).sum
def Ft {α:Type} (L) (f:Int->α):L.map f=(NQ L.length).map fun i=>f (gI L i):=by
 refine RN (by simp) fun i h1 h2=>?_
 rw[NY] at h1
 simp[dg h1]
def fQ (n) (k):Cnt n (bcV n k):=by
 refine⟨fun xs _=>Ge,fun xs b hl=>?_⟩
 have ll:=gD b
 obtain⟨m,hm⟩:∃m,n - xs.length=m+1:=⟨n - xs.length - 1,by omega⟩
 rw[hm] at ll
 have so:=xi n xs
 rw[Ft,ll]
 unfold bcV
 rw[hm]
 show sg (fun r=>Rn m r (k - ((bo xs).length:Int) - lss r (lwI xs))) (m+1)=_
 unfold sg
 congr 1
 refine O8 fun r hr=>?_
 have hr:=O1.mp hr
 have hr':r<(bE n xs).length:=by omega
 obtain⟨x,hx⟩:∃x,gI (bE n xs) r=x:=⟨_,rfl⟩
 rw[hx]
 have hx':(bE n xs)[r]=x:=by rw[<- hx,dg hr']
 have xin:x∈bE n xs:=hx' ▸ RP hr'
 have b2:=b.snoc xin
 have e1:lwI (xs++[x])=r:=by
  rw[<- mV b2 (by simp),zK,zF,Sf]
  have:((bE n xs).filter fun y=>decide (y<x)&&!(x == y))=(bE n xs).filter fun y=>decide (y<x):=RB fun y _=>by
   grind
  rw[this]
  have:=K7 so r hr'
  simp_all
 have e2:((bo (xs++[x])).length:Int)=((bo xs).length:Int)+lss r (lwI xs):=by
  rw[wN]
  by_cases c:xs.length=0
  ·have:lwI xs=0:=if_pos c
   rw[this]
   have:lss r 0=0:=if_neg (by omega)
   simp_all
  ·rw[<- mV b c]
   have:=vB (v:=cE xs) so r hr'
   rw[hx'] at this
   unfold lss
   grind
 grind
def lZ (h:xs.length=n):bcV n k xs=if k=((bo xs).length:Int) then 1 else 0:=by
 unfold bcV
 rw[show n - xs.length=0 by omega]
 unfold Rn
 omega
noncomputable def nxB (n:Nat) (B:List Int->Int) (xs:List Int):List Int:=(bE n xs).filter fun x=>decide (0<B (xs++[x]))
noncomputable def ux (B:List Int->Int) (xs l:List Int):Int:=(l.map fun x=>B (xs++[x])).sum
def g7:ux B xs (x::l)=B (xs++[x])+ux B xs l:=by rfl
theorem w_ {B:List Int->Int}{xs:List Int}:∀{l:List Int},(∀x∈l,0<=B (xs++[x]))->0<=ux B xs l
 | [],_=>Int.le_refl _
 | x::l,h=>by
  rw[g7]
  have:=h x NO
  have:=w_ (l:=l) fun y hy=>h y (NH _ hy)
  omega
theorem AG:∀{l:List Int},(∀x∈l,0<=B (xs++[x]))->ux B xs ((l.filter fun x=>decide (0<B (xs++[x]))).filter p)=ux B xs (l.filter p)
 | [],_=>rfl
 | x::l,h=>by
  have h0:=h x NO
  have ih:=AG (p:=p) (l:=l) fun y hy=>h y (NH _ hy)
  by_cases c:0<B (xs++[x])
  ·rw[Py,if_pos (by simp_all),Py,Py]
   split
   ·rw[g7,g7,ih]
   omega
  ·rw[Py,if_neg (by simp_all),Py,ih]
   split
   ·rw[g7];omega
   ·rfl
section
variable {n:Nat}{B:List Int->Int} (C:Cnt n B)
include C
def Cnt.left (b:Beg n xs):∀x∈bE n xs,0<=B (xs++[x]):=fun x hx=>C.pos _ (b.snoc hx)
def Cnt.nx (b:Beg n xs) (hl:xs.length<n):ux B xs (nxB n B xs)=B xs:=by
 rw[C.sum xs b hl]
 have:=AG (B:=B) (xs:=xs) (p:=fun _=>true) (C.left b)
 have e:∀l:List Int,l.filter (fun _=>true)=l:=fun l=>R4.mpr (by simp)
 rw[e,e] at this
 exact this
end
def Kq:(nxB n B xs).Pairwise (· < ·):=(xi n xs).filter _
def mD (h:x∈nxB n B xs):x∈bE n xs:=(Qc.mp h).1
def k6 (n:Nat) (B:List Int->Int) (C:D):Prop:=∃x ds np m,C=.clo x ds/\ji x=some (np,m)/\ds.length+1=np/\∀xs h,xs.length≠0->Beg n xs->m (ds++[.tup (xs.map D.int)]) h=.ok (.int (B xs)) h
def AA (c:k6 n B C) (b0:xs.length≠0) (b:Beg n xs) (ef:f env h=.ok C h1) (ea:a env h1=.ok [.tup (xs.map D.int)] h2):fV ji f a env h=.ok (.int (B xs)) h2:=by
 obtain⟨x,ds,np,m,rfl,et,el,em⟩:=c
 unfold fV
 simp_all
def yU (c:k6 n B C) (b:Beg n xs) (hn:n<=1000):bu [.int n,.tup (xs.map D.int),C] h=.ok (.frl ((nxB n B xs).map fun x=>tpl (xs++[x]))) h:=by
 have bl:=b.len
 have q:=yV (n:=n) (xs:=xs) (h:=h) (by omega)
 have q2:cN (aJ asB (av dGt (fV ji (af 1) (aa (af 0) ak)) (cC (.int 0)))) (af 0) (fun x=>[some x,some C]) ((bE n xs).map fun x=>tpl (xs++[x])) h=.ok ((nxB n B xs).map fun x=>tpl (xs++[x])) h:=by
  rw[comp_map (fun x=>tpl (xs++[x])) (fun x=>decide (0<B (xs++[x]))) (fun x=>tpl (xs++[x])) (bE n xs) fun x hx=>⟨by
   have e:=AA (f:=af 1) (a:=aa (af 0) ak) (env:=[some (tpl (xs++[x])),some C]) (h:=h) (h1:=h) (h2:=h) c (by simp) (b.snoc hx) (by simp) (by rfl)
   simp_all,fun _=>by simp⟩]
  rfl
 have l1:((bE n xs).map fun x=>tpl (xs++[x])).length<=1000000:=by rw[NY,gD b];omega
 have z2:(n:Int).natAbs<=1000000:=by omega
 have z3:n<=1000000:=by omega
 generalize ((bE n xs).map fun x=>tpl (xs++[x]))=W at *
 generalize ((nxB n B xs).map fun x=>tpl (xs++[x]))=W2 at *
 generalize xs.map D.int=X at *
 simp[bu,bj,z2,z3,q,l1,q2]
noncomputable def tpI (b:List Int):D:=.tup (b.map D.int)
noncomputable def eW (n:Nat) (b:List Int):List (List Int):=((NQ n).filter fun(i:Nat)=>!(b.any (· == (i:Int)))).map fun(i:Nat)=>b++[(i:Int)]
noncomputable def allI (n:Nat):Nat->List (List Int)
 | 0=>[[]]
 | k+1=>(allI n k).flatMap (eW n)
def qS (n) (b):(eW n b).length<=n:=by
 unfold eW
 grind
theorem t5 (n:Nat):∀L:List (List Int),(L.flatMap (eW n)).length<=L.length*n
 | []=>by simp
 | b::L=>by
  rw[QJ,OF,OJ,Nat.succ_mul]
  have:=qS n b;have:=t5 n L;omega
theorem rS (n:Nat):∀k,(allI n k).length<=n ^ k
 | 0=>by simp[allI]
 | k+1=>by
  rw[allI,Nat.pow_succ]
  exact N4 (t5 n _) (QO n (rS n k))
theorem CC (n):∀k,∀b∈allI n k,b.length=k/\∀x∈b,0<=x/\x<n
 | 0=>by intro b hb;simp[allI] at hb;simp_all
 | k+1=>by
  intro b hb
  rw[allI] at hb
  obtain⟨c,hc,hb⟩:=QU.mp hb
  obtain⟨l,r⟩:=CC n k c hc
  unfold eW at hb
  grind
def zG (hn:n<=7) (hk:k<=7):n ^ k<=900000:=
 N4 (Nat.pow_le_pow_left hn k) (N4 (Nat.pow_le_pow_right (by decide) hk) (by decide))
def CQ {n:Nat}{b:List Int}{h:Hh} (hb:b.length<=1000):cN (aJ asB (av (dIn true) (af 0) (af 1))) (av (bY aI) (af 1) (ah cn (aa (af 0) ak))) (fun d=>[some d,some (tpI b)]) (bD 0 n) h=.ok ((eW n b).map tpI) h:=by
 have z:b.length+1<=1000000:=by omega
 rw[uA (fun(i:Nat)=>!(b.any (· == (i:Int)))) (fun(i:Nat)=>tpI (b++[(i:Int)]))]
 ·simp[eW,Pa]
  try rfl
 ·intro i hi
  refine⟨by simp[tpI],fun _=>by simp[tpI,z]⟩
def Cg {σ X:Type} (n) (enc) (xs:List X) (E:σ->En) (G:σ->Hh) (f) (I:Nat->σ->Prop) (hl:∀s,aq (G s) n=some (xs.map enc))
  (st:∀i x s,xs[i]?=some x->I i s->I (i+1) (f s x)/\(tg (enc x) (E s) (G s)).bind body=.ok (.nx (E (f s x))) (G (f s x))) :
  ∀k i s , i+k=xs.length->I i s->eX (Src.live n).rdr tg body k i (E s) (G s)=.ok (.nx (E ((xs.drop i).foldl f s))) (G ((xs.drop i).foldl f s))/\I xs.length ((xs.drop i).foldl f s):=by
 intro k
 induction k with
 | zero=>
  intro i s e hi
  have:i=xs.length:=by omega
  subst this
  rw[List.drop_length,List.foldl_nil]
  refine⟨?_,hi⟩
  unfold eX
  simp[Src.rdr,hl]
 | succ k ih=>
  intro i s e hi
  have lt:i<xs.length:=by omega
  obtain⟨a,b⟩:=st i xs[i] s (N0 lt) hi
  have:=ih (i+1) (f s xs[i]) (by omega) a
  rw[Ot lt,Qg]
  refine⟨?_,this.2⟩
  unfold eX
  have g:(Src.live n).rdr (G s) i=some (some (enc xs[i])):=by simp[Src.rdr,hl,N0 lt]
  rw[g]
  show(tg (enc xs[i]) (E s) (G s)).bind (fun e1 h1=>(body e1 h1).bind _)=_
  rw[<- bA,b]
  exact this.1
noncomputable def hpA (n t:Nat):Hh:=(NQ t).map fun k=>O.lst ((allI n (k+1)).map tpI)
def mz (n t:Nat):(hpA n t).length=t:=by simp[hpA]
def vH (k) (hk:k<t):aq (hpA n t++r) k=some ((allI n (k+1)).map tpI):=by
 unfold aq
 rw[Oo (by rw[mz];exact hk)]
 simp[hpA,hk]
def KP (n t):hpA n (t+1)=hpA n t++[O.lst ((allI n (t+1)).map tpI)]:=by simp[hpA,Ro]
noncomputable def BI:MS:=eB (dZ fc (af 3) (aa (c7 aI (dY fw (aa (af 0) ak)) [4] (aJ asB (av (dIn true) (af 0) (af 1))) (av (bY aI) (af 1) (ah cn (aa (af 0) ak)))) ak))
def FX {n t:Nat}{b:List Int}{acc:List (List Int)}{d1 d2:Option D} (hn:n<=7) (hb:b.length<=7) (ha:acc.length+(eW n b).length<=1000000):BI [some (.int n),d1,d2,some (.ref t),some (tpI b)] (hpA n t++[.lst (acc.map tpI)])=.ok (.nx [some (.int n),d1,d2,some (.ref t),some (tpI b)]) (hpA n t++[.lst ((acc++eW n b).map tpI)]):=by
 have q:=CQ (n:=n) (b:=b) (h:=hpA n t++[.lst (acc.map tpI)]) (by omega)
 have l:aq (hpA n t++[.lst (acc.map tpI)]) t=some (acc.map tpI):=by
  have:=bR (h:=hpA n t) (ds:=acc.map tpI) (t:=[])
  rw[mz] at this;omega
 have ex:fc (.ref t) [.frl ((eW n b).map tpI)] (hpA n t++[.lst (acc.map tpI)])=.ok .non (hpA n t++[.lst (acc.map tpI++(eW n b).map tpI)]):=by
  have:=zE (h:=hpA n t) (ds:=acc.map tpI) (ys:=(eW n b).map tpI) (t:=[])
  rw[mz,if_pos (by simp_all)] at this;omega
 have z:n<=1000000:=by omega
 simp[BI,Bh l,z,q,ex]
def Cb (hn:n<=7) (ht:t+2<=7):∃d4',eX (Src.live t).rdr (gN 4) BI (allI n (t+1)).length 0 [some (.int n),some (.ref t),d2,some (.ref (t+1)),d4] (hpA n (t+1)++[.lst []])=.ok (.nx [some (.int n),some (.ref t),d2,some (.ref (t+1)),d4']) (hpA n (t+2)):=by
 have pl:(allI n (t+1)).length*n<=900000:=N4 (QO n (rS n (t+1))) (by rw[<- Nat.pow_succ];exact zG hn ht)
 obtain⟨q,q2⟩:=Cg (σ:=Option D × List (List Int)) (tg:=gN 4) (body:=BI) t tpI (allI n (t+1)) (fun s=>[some (.int n),some (.ref t),d2,some (.ref (t+1)),s.1]) (fun s=>hpA n (t+1)++[.lst (s.2.map tpI)]) (fun s b=>(some (tpI b),s.2++eW n b))
  (fun i s=>s.2.length<=i*n) (fun s=>vH t (by omega)) (fun i x s hx hi=>by
   have hx':x∈allI n (t+1):=Oc hx
   have lx:=(CC n (t+1) x hx').1
   have il:i<(allI n (t+1)).length:=(OO.mp hx).1
   have el:=qS n x
   refine⟨by grind,?_⟩
   have bd:s.2.length+(eW n x).length<=1000000:=by
    have:=QO n (show i+1<=(allI n (t+1)).length from il)
    grind
   simp[FX (n:=n) (t:=t+1) (b:=x) (acc:=s.2) (d1:=some (.ref t)) (d2:=d2) hn (by omega) bd]) (allI n (t+1)).length 0 (d4,[]) (by omega) (by simp)
 have fd:∀(L:List (List Int)) (s:Option D × List (List Int)),(L.foldl (fun(s:Option D × List (List Int)) b=>(some (tpI b),s.2++eW n b)) s).2=s.2++L.flatMap (eW n):=by
  intro L
  induction L with
  | nil=>simp
  | cons b L ih=>simp_all
 rw[Tp,fd,QA] at q
 refine⟨((allI n (t+1)).foldl (fun(s:Option D × List (List Int)) b=>(some (tpI b),s.2++eW n b)) (d4,[])).1,?_⟩
 rw[KP n (t+1),show allI n (t+1+1)=(allI n (t+1)).flatMap (eW n) from rfl]
 exact q
noncomputable def BO:MS:=(aH (aW 3 (ah (dw jW) ak)) (aH (cx (bp (af 1)) (gN 4) BI) (aW 1 (af 3))))
noncomputable def slot1:Nat->D
 | 0=>.frl [.tup []]
 | t+1=>.ref t
def JA {n t:Nat}{d2 d3 d4:Option D} (hn:n<=7) (ht:t<n):∃d3' d4',BO [some (.int n),some (slot1 t),d2,d3,d4] (hpA n t)=.ok (.nx [some (.int n),some (slot1 (t+1)),d2,d3',d4']) (hpA n (t+1)):=by
 cases t with
 | zero=>
  have b:=FX (n:=n) (t:=0) (b:=[]) (acc:=[]) (d1:=some (.frl [.tup []])) (d2:=d2) hn (by simp) (by have:=qS n [];grind)
  have e0:hpA n 0=[]:=rfl
  have e1:hpA n 1=[.lst ((eW n []).map tpI)]:=by simp[hpA,allI]
  rw[e0] at b
  simp only[QA,S3,tpI] at b
  refine⟨some (.ref 0),some (.tup []),?_⟩
  rw[e0,e1]
  simp[BO,slot1,fK,xo,b]
 | succ t=>
  obtain⟨d4',q⟩:=Cb (n:=n) (t:=t) (d2:=d2) (d4:=d4) hn (by omega)
  have l:aq (hpA n (t+1)++[.lst []]) t=some ((allI n (t+1)).map tpI):=vH t (by omega)
  refine⟨some (.ref (t+1)),d4',?_⟩
  have nl:∀h:Hh,dw jW [] h=.ok (.ref h.length) (h++[.lst []]):=fun h=>by simp
  have sk:G_ (gN 4) BI [some (.int n),some (.ref t),d2,some (.ref (t+1)),d4] (.live t) (hpA n (t+1)++[.lst []])=.ok (.nx [some (.int n),some (.ref t),d2,some (.ref (t+1)),d4']) (hpA n (t+2)):=by
   show eX (Src.live t).rdr (gN 4) BI ((aq (hpA n (t+1)++[.lst []]) t).getD []).length 0 _ _=_
   simp_all
  simp[BO,slot1,mz,A8 l,sk]
theorem ud {n:Nat} (hn:n<=7):∀(k j:Nat) (d2 d3 d4:Option D),j+k=n->∃d2' d3' d4',cI (gN 2) BO (((NQ k).map fun i=>j+i).map fun(i:Nat)=>D.int i) [some (.int n),some (slot1 j),d2,d3,d4] (hpA n j)=.ok (.nx [some (.int n),some (slot1 n),d2',d3',d4']) (hpA n n)
 | 0,j,d2,d3,d4,e=>⟨d2,d3,d4,by
   have:j=n:=by omega
   subst this
   rfl⟩
 | k+1,j,d2,d3,d4,e=>by
  obtain⟨e3,e4,b⟩:=JA (n:=n) (t:=j) (d2:=some (.int j)) (d3:=d3) (d4:=d4) hn (by omega)
  obtain⟨d2',d3',d4',q⟩:=ud hn k (j+1) (some (.int j)) e3 e4 (by omega)
  refine⟨d2',d3',d4',?_⟩
  have er:((NQ (k+1)).map fun i=>j+i)=j::(NQ k).map fun i=>(j+1)+i:=by
   rw[List.range_succ_eq_map,NR,Pa]
   congr 1
   apply O8
   grind
  rw[er,NR,fK]
  simp_all
def Et (e:aq H k=some ds) (l:ds.all (deep 7)=true):bg [] (.ref k) H=.ok (.frl ds) []:=by
 have fz:eD 0 H 8 (.ref k)=some (.frl ds):=by
  unfold eD
  simp only[Rh,if_false,e]
  rw[fh fun d hd=>cY 7 d (NZ.mp l d hd)]
  rfl
 unfold bg
 simp[fz]
def C7 (L:List (List Int)):(L.map tpI).all (deep 7)=true:=by
 rw[List.all_map,NZ]
 intro b _
 simp[tpI]
def EZ (L:List (List Int)):a8 0 (L.map tpI)=true:=kf fun b=>by simp[tpI,gT]
def JH {n:Nat} (h1:1<=n) (hn:n<=7) (h:Hh):dF [.int n] h=.ok (.frl ((allI n n).map tpI)) h:=by
 obtain⟨d2,d3,d4,q⟩:=ud hn n 0 none none none (by omega)
 have q':cI (gN 2) BO (bD 0 n) [some (.int n),some (.frl [.tup []]),none,none,none] []=.ok (.nx [some (.int n),some (slot1 n),d2,d3,d4]) (hpA n n):=by
  rw[dH]
  have:((NQ n).map fun i=>0+i)=NQ n:=by simp
  rw[this] at q
  exact q
 obtain⟨k,rfl⟩:∃k,n=k+1:=⟨n - 1,by omega⟩
 have l:aq (hpA (k+1) (k+1)) k=some ((allI (k+1) (k+1)).map tpI):=by
  have:=vH (n:=k+1) (t:=k+1) (r:=[]) k (by omega)
  simp_all
 have ex:=Et l (C7 _)
 have z:k+1<=1000000:=by omega
 have me:dF=pA (fun ds h=>((bF 5 (aH (aW 1 (ah (dw aI) (aa (ah cn ak) ak))) (aH (cx (dY fw (aa (af 0) ak)) (gN 2) BO) (a9 (af 1))))) ds h).bind (bg h)):=rfl
 have lo:a8 0 [D.int ((k+1:Nat):Int)]=true:=by rfl
 have lo2:gT 0 (.frl ((allI (k+1) (k+1)).map tpI))=true:=by simp only[gT];exact EZ _
 rw[me]
 generalize hK:((k+1:Nat):Int)=K1 at q' lo ⊢
 have z1:K1.natAbs<=1000000:=by omega
 have z2:K1.toNat=k+1:=by omega
 simp[pA,lo,bj,z1,z2,q',slot1,ex,lo2]
noncomputable def fll (n:Nat) (B:List Int->Int):Nat->List (List Int)
 | 0=>[[]]
 | m+1=>(fll n B m).flatMap fun xs=>(nxB n B xs).map fun x=>xs++[x]
noncomputable def wsm (B:List Int->Int) (L:List (List Int)):Int:=(L.map B).sum
def El:wsm B (L1++L2)=wsm B L1+wsm B L2:=by unfold wsm;simp
def jh:wsm B (x::L)=B x+wsm B L:=by rfl
def DJ:wsm B (l.map fun x=>xs++[x])=ux B xs l:=by unfold wsm ux;rw[Pa];rfl
theorem c5 {n:Nat}{B:List Int->Int}:∀m,∀xs∈fll n B m,xs.length=m/\Beg n xs
 | 0,xs,h=>by simp[fll] at h;subst h;exact⟨rfl,Beg.nil n⟩
 | m+1,xs,h=>by
  unfold fll at h
  obtain⟨ys,hy,hx⟩:=QU.mp h
  obtain⟨x,hz,rfl⟩:=Ov.mp hx
  obtain⟨l,b⟩:=c5 m ys hy
  exact⟨by simp[l],b.snoc (mD hz)⟩
theorem tj {n:Nat}{B:List Int->Int} (C:Cnt n B):∀{L:List (List Int)},(∀xs∈L,Beg n xs/\xs.length<n)->wsm B (L.flatMap fun xs=>(nxB n B xs).map fun x=>xs++[x])=wsm B L
 | [],_=>rfl
 | xs::L,h=>by
  obtain⟨b,l⟩:=h xs NO
  rw[QJ,El,tj C fun ys hy=>h ys (NH _ hy),jh,DJ,C.nx b l]
theorem x9 {B:List Int->Int}:∀{L:List (List Int)},(∀xs∈L,B xs=1)->wsm B L=L.length
 | [],_=>rfl
 | x::L,h=>by rw[jh,h x NO,x9 fun y hy=>h y (NH _ hy),OJ];omega
theorem qQ (C:Cnt n B):∀m,m<=n->wsm B (fll n B m)=B []
 | 0,_=>by show wsm B [[]]=_;rw[jh];show B []+0=_;omega
 | m+1,hm=>by
  show wsm B ((fll n B m).flatMap _)=_
  rw[tj C fun ys hy=>by
   obtain⟨l,b⟩:=c5 m ys hy
   grind,qQ C m (by omega)]
def qR (h0:0<B []):∀m,∀xs∈fll n B m,0<B xs
 | 0,xs,h=>by simp[fll] at h;simp_all
 | m+1,xs,h=>by
  unfold fll at h
  obtain⟨ys,hy,hx⟩:=QU.mp h
  obtain⟨x,hz,rfl⟩:=Ov.mp hx
  have:=(Qc.mp hz).2
  simp_all
def Dr (h0:0<B []) (F:∀xs,Beg n xs->xs.length=n->B xs=0\/B xs=1):∀xs∈fll n B n,B xs=1:=fun xs hx=>by
 obtain⟨l,b⟩:=c5 n xs hx
 have:=qR h0 n xs hx
 grind
def yJ (C:Cnt n B) (F:∀xs,Beg n xs->xs.length=n->B xs=0\/B xs=1) (h0:0<B []):((fll n B n).length:Int)=B []:=by
 rw[<- x9 (Dr h0 F),qQ C n (NK _)]
def qH (C:Cnt n B) (b:Beg n xs) (hl:xs.length<n) (h:¬ 0<B xs):nxB n B xs=[]:=by
 have s:=C.nx b hl
 have p:=C.pos xs b
 cases e:nxB n B xs with
 | nil=>rfl
 | cons x l=>
  have hx:x∈nxB n B xs:=by simp_all
  have h1:=(Qc.mp hx).2
  have h1:0<B (xs++[x]):=by simp_all
  rw[e,g7] at s
  have:=w_ (B:=B) (xs:=xs) (l:=l) fun y hy=>C.left b y (mD (by rw[e];simp_all))
  omega
def nS:eW n xs=(bE n xs).map fun x=>xs++[x]:=by
 unfold eW bE dQ
 rw[List.filter_map,Pa]
 simp only[Function.comp_def,Int.zero_add]
theorem my (C:Cnt n B):∀m,m<=n->(∀xs∈allI n m,xs.length=m/\Beg n xs)/\(0<B []->(allI n m).filter (fun xs=>decide (0<B xs))=fll n B m)
 | 0,_=>⟨fun xs h=>by simp[allI] at h;subst h;exact⟨rfl,Beg.nil n⟩,fun h=>by
  show List.filter _ [[]]=_
  rw[Py,if_pos (by simp_all)];rfl⟩
 | m+1,hm=>by
  obtain⟨i1,i2⟩:=my C m (by omega)
  have key:∀L:List (List Int),(∀xs∈L,xs.length=m/\Beg n xs)->(L.flatMap (eW n)).filter (fun xs=>decide (0<B xs))=(L.filter fun xs=>decide (0<B xs)).flatMap fun xs=>(nxB n B xs).map fun x=>xs++[x]:=by
   intro L
   induction L with
   | nil=>simp
   | cons xs L ih=>
    intro hL
    obtain⟨l,b⟩:=hL xs NO
    have ih:=ih fun ys hy=>hL ys (NH _ hy)
    rw[QJ,List.filter_append,ih,nS]
    have e:((bE n xs).map fun x=>xs++[x]).filter (fun xs=>decide (0<B xs))=(nxB n B xs).map fun x=>xs++[x]:=by
     rw[List.filter_map];rfl
    rw[e,Py]
    by_cases c:0<B xs
    ·simp_all
    ·rw[if_neg (by simp_all),qH C b (by omega) c];rfl
  refine⟨fun xs h=>?_,fun h=>?_⟩
  ·rw[allI] at h
   obtain⟨ys,hy,hx⟩:=QU.mp h
   rw[nS] at hx
   obtain⟨x,hz,rfl⟩:=Ov.mp hx
   obtain⟨l,b⟩:=i1 ys hy
   exact⟨by simp[l],b.snoc hz⟩
  ·rw[allI,key _ i1,i2 h];rfl
def Bj (w:Wf h) (el:aq (h++t) (h.length+j)=some ds) (e:ds.all (deep 7)=true):bg h (.ref (h.length+j)) (h++t)=.ok (.frl ds) h:=by
 unfold bg
 rw[Rj rfl,if_pos (show h.all (je h.length)=true from w)]
 have:eD h.length (h++t) 8 (.ref (h.length+j))=some (.frl ds):=by
  unfold eD
  have:¬ (h.length+j<h.length):=by omega
  simp only[this,if_false,el]
  rw[NZ] at e
  rw[fh fun d hd=>cY 7 d (e d hd)];rfl
 rw[this]
def C8 (w:Wf h) (el:aq (h++t) (h.length+j)=some ds) (e:ds.all (deep 8)=true):gi h (.ref (h.length+j)) (h++t)=.ok (.ref h.length) (h++[.lst ds]):=by
 unfold gi
 rw[Rj rfl,if_pos (show h.all (je h.length)=true from w)]
 have:h.length<=h.length+j:=by omega
 simp only[this,if_true,el]
 rw[NZ] at e
 rw[fh fun d hd=>cY 8 d (e d hd)]
def mI {L:List (List Int)}:(L.map tpI).all (deep (k+2))=true:=by
 rw[NZ];intro d hd
 obtain⟨x,_,rfl⟩:=Ov.mp hd
 simp[tpI]
theorem A5 {B:List Int->Int}:∀{L:List (List Int)},(∀xs∈L,0<B xs)->(L.length:Int)<=wsm B L
 | [],_=>by simp[wsm]
 | x::L,h=>by
  rw[jh,OJ]
  have:=h x NO
  have:=A5 (L:=L) fun y hy=>h y (NH _ hy)
  omega
def GD (C:Cnt n B) (h0:0<B []) (hm:m<=n):((fll n B m).length:Int)<=B []:=by
 rw[<- qQ C m hm];exact A5 (qR h0 m)
def HH (b:Beg n xs):(nxB n B xs).length<=n:=by
 have:=List.length_filter_le (fun x=>decide (0<B (xs++[x]))) (bE n xs)
 rw[gD b] at this
 unfold nxB;omega
noncomputable abbrev exB (n:Nat) (B:List Int->Int) (xs:List Int):List (List Int):=(nxB n B xs).map fun x=>xs++[x]
theorem Aw {M:List (List Int)}{ff:D->En}{H:Hh} (hf:∀e h,af 1 (ff e) h=.ok e h):∀(k j:Nat) (acc:List (List Int)),j+k=M.length->acc.length+k<=1000000->vg H.length (Src.snap (M.map tpI)).rdr (af 1) ff k j (H++[.lst (acc.map tpI)])=.ok () (H++[.lst ((acc++M.drop j).map tpI)])
 | 0,j,acc,e,_=>by
  unfold vg
  have:(Src.snap (M.map tpI)).rdr (H++[.lst (acc.map tpI)]) j=some none:=by
   simp only[Src.rdr]
   simp_all
  simp_all
 | k+1,j,acc,e,l=>by
  unfold vg
  have lt:j<M.length:=by omega
  have g:(Src.snap (M.map tpI)).rdr (H++[.lst (acc.map tpI)]) j=some (some (tpI M[j])):=by
   simp only[Src.rdr]
   simp_all
  rw[g]
  have a:Bk H.length (tpI M[j]) (H++[.lst (acc.map tpI)])=.ok () (H++[.lst ((acc++[M[j]]).map tpI)]):=by
   unfold Bk
   rw[bR]
   grind
  dsimp only
  rw[hf,cP,a,cP,Aw hf k (j+1) _ (by omega) (by grind),Ot lt,OX]
  rfl
noncomputable def MI2:MI:=(bp (ah bu (aa (af 2) (aa (af 0) (aa (af 3) ak)))))
theorem B9 {n:Nat}{sr:Src}{B:List Int->Int}{C y:D}{L:List (List Int)}{H:Hh}{d2 d3:Option D} (c:k6 n B C) (hn:n<=12) (er:∀X i,sr.rdr (H++[.lst X]) i=some ((L.map tpI)[i]?)) (hb:∀b∈L,Beg n b):∀(k i:Nat) (acc:List (List Int)),i+k=L.length->acc.length+k*12<=1000000->rV H.length sr.rdr MI2 (af 1) (gy [0,1] [some (.int n),some C,d2,d3]) k i (H++[.lst (acc.map tpI)])=.ok () (H++[.lst ((acc++(L.drop i).flatMap (exB n B)).map tpI)])
 | 0,i,acc,e,_=>by
  unfold rV
  simp_all
 | k+1,i,acc,e,l=>by
  have lt:i<L.length:=by omega
  unfold rV
  have g:sr.rdr (H++[.lst (acc.map tpI)]) i=some (some (tpI L[i])):=by simp_all
  rw[g]
  have bi:=hb _ (RP lt)
  have cp:∀a b,gy [0,1] [some (.int n),some C,d2,d3] a b=[a,b,some (.int n),some C]:=fun a b=>by rfl
  have nl:=HH (B:=B) bi
  have mi:MI2 (gy [0,1] [some (.int n),some C,d2,d3] (some (tpI L[i])) none) (H++[.lst (acc.map tpI)])=.ok (.snap ((exB n B L[i]).map tpI)) (H++[.lst (acc.map tpI)]):=by
   rw[cp]
   have lo:=yU (h:=H++[.lst (acc.map tpI)]) c bi (by omega)
   have e:((nxB n B L[i]).map fun x=>tpl (L[i]++[x]))=(exB n B L[i]).map tpI:=by rw[Pa];rfl
   rw[e] at lo
   generalize (exB n B L[i]).map tpI=W at *
   simp only[tpI]
   generalize L[i].map D.int=X at *
   simp[MI2,lo]
  have fu:(Src.snap ((exB n B L[i]).map tpI)).fuel (H++[.lst (acc.map tpI)])=(exB n B L[i]).length:=by
   show((exB n B L[i]).map tpI).length=_
   simp
  have el:(exB n B L[i]).length<=12:=by grind
  have l2:acc.length+12+k*12<=1000000:=by omega
  dsimp only
  rw[mi,cP,fu]
  rw[Aw (M:=exB n B L[i]) (ff:=fun e=>gy [0,1] [some (.int n),some C,d2,d3] (some (tpI L[i])) (some e)) (fun e h=>by rfl) (exB n B L[i]).length 0 acc (by omega) (by omega),cP,Tp]
  have:=B9 (y:=y) (d2:=d2) (d3:=d3) c hn er hb k (i+1) (acc++exB n B L[i]) (by omega) (by grind)
  rw[this,Ot lt,QJ,OX]
def AK (H:Hh) (d:D) (L:List (List Int)):Prop:=∃sr,r8 d H=.ok sr H/\sr.fuel H=L.length/\∀X i,sr.rdr (H++[.lst X]) i=some ((L.map tpI)[i]?)
def yw (er:aq H r=some (L.map tpI)):AK H (.ref r) L:=⟨.live r,A8 er,by simp[Src.fuel,er],fun X i=>by simp only[Src.rdr];rw[D6 er];rfl⟩
def EO:AK H (.frl (L.map tpI)) L:=⟨.snap (L.map tpI),rfl,by simp[Src.fuel],fun X i=>rfl⟩
def KR (c:k6 n B C) (hn:n<=12) (er:AK H d L) (hb:∀b∈L,Beg n b) (hl:L.length<=10000):d7 (bp (af 2)) [0,1] MI2 (af 1) [some (.int n),some C,some d,d3] H=.ok (.ref H.length) (H++[.lst ((L.flatMap (exB n B)).map tpI)]):=by
 obtain⟨sr,s1,f,rd⟩:=er
 unfold d7
 have s:bp (af 2) [some (.int n),some C,some d,d3] H=.ok sr H:=by
  simp_all
 have:=B9 (y:=.non) (d2:=some d) (d3:=d3) c hn rd hb L.length 0 [] (by omega) (by grind)
 simp_all
def xN (c:k6 n B C) (h1:1<=n) (hn:n<=12) (hL:∀m,m<=n->(fll n B m).length<=10000) (s0:AK (h++T0) d0 [[]]):∃T j y,cI (gN 3) (aW 2 (d7 (bp (af 2)) [0,1] MI2 (af 1))) (((NQ n).map fun(i:Nat)=>D.int i)) [some (.int n),some C,some d0,none] (h++T0)=.ok (.nx [some (.int n),some C,some (.ref (h.length+j)),y]) (h++T)/\aq (h++T) (h.length+j)=some ((fll n B n).map tpI):=by
 obtain⟨s,lp,si⟩:=qB (σ:=Hh × D × Option D) (tg:=gN 3) (body:=(aW 2 (d7 (bp (af 2)) [0,1] MI2 (af 1)))) (fun(i:Nat)=>D.int i) n (fun s=>[some (.int n),some C,some s.2.1,s.2.2]) (fun s=>h++s.1) (fun i s=>AK (h++s.1) s.2.1 (fll n B i)/\(i≠0->∃j,s.2.1=.ref (h.length+j)/\aq (h++s.1) (h.length+j)=some ((fll n B i).map tpI))) (fun i s hi hs=>by
  obtain⟨T,d,y⟩:=s
  obtain⟨hs,_⟩:=hs
  dsimp only at hs ⊢
  have fl:=hL i (by omega)
  have q:=KR (C:=C) (d3:=some (.int i)) c hn hs (fun b hb=>(c5 i b hb).2) (by omega)
  have ln:aq (h++(T++[.lst ((fll n B (i+1)).map tpI)])) (h.length+T.length)=some ((fll n B (i+1)).map tpI):=by
   rw[<- OX,<- OF]
   exact bR
  refine⟨(T++[.lst ((fll n B (i+1)).map tpI)],.ref (h.length+T.length),some (.int i)),⟨yw ln,fun _=>⟨_,rfl,ln⟩⟩,?_⟩
  have e:fll n B (i+1)=(fll n B i).flatMap (exB n B):=rfl
  simp_all) n 0 (T0,d0,none) (by omega) ⟨s0,fun z=>absurd rfl z⟩
 obtain⟨T,d,y⟩:=s
 obtain⟨_,si⟩:=si
 obtain⟨j,e,l⟩:=si (by omega)
 dsimp only at e l lp
 subst e
 rw[<- Qa] at lp
 grind
def DV {n:Nat}{B:List Int->Int}{C:D}{h:Hh} (c:k6 n B C) (h1:1<=n) (hn:n<=12) (hL:∀m,m<=n->(fll n B m).length<=10000) (w:Wf h):bX [.int n,C] h=.ok (.ref h.length) (h++[.lst ((fll n B n).map tpI)]):=by
 obtain⟨T,j,y,lp,si⟩:=xN (h:=h) (T0:=[.lst [tpI []]]) (d0:=.ref h.length) c h1 hn hL (yw (L:=[[]]) bR)
 rw[<- dH] at lp
 have z2:(n:Int).natAbs<=1000000:=by omega
 have z3:n<=1000000:=by omega
 have ex:=C8 w si (mI (k:=6))
 have eq:bX=fun ds h=>((bF 4 (aH (aW 2 (ah (dw jW) (aa (ah cn ak) ak))) (aH (cx (dY fw (aa (af 0) ak)) (gN 3) (aW 2 (d7 (bp (af 2)) [0,1] MI2 (af 1)))) (a9 (af 2))))) ds h).bind (gi h):=rfl
 have t0:tpI []=.tup []:=rfl
 rw[t0] at lp
 rw[eq]
 generalize (fll n B n).map tpI=W at *
 generalize (aW 2 (d7 (bp (af 2)) [0,1] MI2 (af 1)))=BD at *
 simp[bj,jW,z2,z3,lp,ex]
def Cd {n:Nat}{B:List Int->Int}{C:D}{h:Hh} (c:k6 n B C) (h1:1<=n) (hn:n<=12) (hL:∀m,m<=n->(fll n B m).length<=10000) (w:Wf h):bV [.int n,C] h=.ok (.frl ((fll n B n).map tpI)) h:=by
 obtain⟨T,j,y,lp,si⟩:=xN (h:=h) (T0:=[]) (d0:=.frl [tpI []]) c h1 hn hL (EO (L:=[[]]))
 rw[<- dH,O2] at lp
 have z2:(n:Int).natAbs<=1000000:=by omega
 have z3:n<=1000000:=by omega
 have ex:=Bj w si (mI (k:=5))
 have eq:bV=fun ds h=>((bF 4 (aH (aW 2 (ah (dw aI) (aa (ah cn ak) ak))) (aH (cx (dY fw (aa (af 0) ak)) (gN 3) (aW 2 (d7 (bp (af 2)) [0,1] MI2 (af 1)))) (a9 (af 2))))) ds h).bind (bg h):=rfl
 have t0:tpI []=.tup []:=rfl
 rw[t0] at lp
 rw[eq]
 generalize (fll n B n).map tpI=W at *
 generalize (aW 2 (d7 (bp (af 2)) [0,1] MI2 (af 1)))=BD at *
 simp[bj,aI,z2,z3,lp,ex]
theorem qV {n:Nat}{B:List Int->Int} (C:Cnt n B) (h0:¬ 0<B []):∀m,m<n->fll n B (m+1)=[]
 | 0,h=>by
  show([[]]:List (List Int)).flatMap _=_
  rw[QJ,qH C (Beg.nil n) h h0];rfl
 | m+1,h=>by
  show(fll n B (m+1)).flatMap _=_
  rw[qV C h0 m (by omega)];rfl
def jR (C:Cnt n B) (h3:B []<=300) (m) (hm:m<=n):(fll n B m).length<=300:=by
 by_cases c:0<B []
 ·have:=GD C c hm;omega
 ·cases m with
  | zero=>show 1<=300;omega
  | succ m=>rw[qV C c m hm];simp
theorem CM {n:Nat}{B:List Int->Int} (C:Cnt n B) (h0:¬ 0<B []):∀m,m<=n->(allI n m).filter (fun xs=>decide (0<B xs))=[]
 | 0,_=>by
  show List.filter _ [[]]=_
  simp_all
 | m+1,hm=>by
  have i2:=CM C h0 m (by omega)
  have i1:=(my C m (by omega)).1
  rw[allI,Rv]
  intro xs hx z
  have z:0<B xs:=by simp_all
  obtain⟨ys,hy,hz⟩:=QU.mp hx
  rw[nS] at hz
  obtain⟨x,hl,rfl⟩:=Ov.mp hz
  obtain⟨l,b⟩:=i1 ys hy
  have ny:¬ 0<B ys:=fun q=>by
   have:=(Rv.mp i2) ys hy
   simp_all
  have e:=qH C b (by omega) ny
  have:x∈nxB n B ys:=Qc.mpr ⟨hl,by omega⟩
  simp_all
def Hb (C:Cnt n B) (h1:1<=n):(allI n n).filter (fun xs=>decide (0<B xs))=fll n B n:=by
 by_cases c:0<B []
 ·exact(my C n (NK _)).2 c
 ·rw[CM C c n (NK _)]
  obtain⟨m,rfl⟩:∃m,n=m+1:=⟨n - 1,by omega⟩
  rw[qV C c m (by omega)]
def yc (hn:n<=12):k6 n (bcV n k) (.clo "begun_count" [.frl (rsD n),.int k]):=⟨_,_,3,aQ,rfl,j_,rfl,fun xs h _ b=>Kf b hn⟩
def Ca {n:Nat}{k:Int}{h:Hh} (h1:1<=n) (hn:n<=12) (k0:0<=k) (k1:k<=12):bf [.int n,.int k] h=.ok .non h:=by
 have z:(1:Int)<=(n:Int)/\(n:Int)<=12:=by omega
 have z2:(0:Int)<=k/\k<=12:=⟨k0,k1⟩
 simp[bf,bT,bj,up,z,z2]
def jU (hn:n<=12) (e:af i env h=.ok (.clo "begun_count" [.frl (rsD n),.int k]) h):fV ji (af i) (aa (ah cn ak) ak) env h=.ok (.int (bcV n k [])) h:=by
 have q:=Kf (k:=k) (h:=h) (Beg.nil n) hn
 rw[S3] at q
 rw[ER,e]
 simp[q]
def KL {n:Nat}{k:Int}{h:Hh} (w:Wf h) (h1:1<=n) (hn:n<=12) (k0:0<=k) (k1:k<=12) (c:bcV n k []<=300):aY [.int n,.int k] h=.ok (.ref h.length) (h++[.lst ((fll n (bcV n k) n).map tpI)]):=by
 have a:=Ca (h:=h) h1 hn k0 k1
 have jc:=kA (n:=n) (k:=k) (h:=h) hn w
 have mc:=jU (n:=n) (k:=k) (i:=2) (env:=[some (.int n),some (.int k),some (.clo "begun_count" [.frl (rsD n),.int k])]) (h:=h) hn (by simp)
 have ol:=DV (h:=h) (yc (k:=k) hn) h1 hn (fun m hm=>N4 (jR (fQ n k) c m hm) (by decide)) w
 have c':¬ 300<bcV n k []:=by omega
 have tn:aR [.int (bcV n k [])] h=.ok .non h:=by
  simp[aR,bj,up,c']
 generalize bcV n k []=V at *
 generalize (fll n (bcV n k) n).map tpI=W at *
 generalize rsD n=J at *
 simp[aY,bj,up,a,jc,mc,tn,ol]
def Ks (w:Wf h) (h1:1<=n) (hn:n<=12) (k0:0<=k) (k1:k<=12) (c:300<bcV n k []):aY [.int n,.int k] h=.err ⟨"TooGreat", [("many", bcV n k []),("most", 300)]⟩ h:=by
 have a:=Ca (h:=h) h1 hn k0 k1
 have jc:=kA (n:=n) (k:=k) (h:=h) hn w
 have mc:=jU (n:=n) (k:=k) (i:=2) (env:=[some (.int n),some (.int k),some (.clo "begun_count" [.frl (rsD n),.int k])]) (h:=h) hn (by simp)
 generalize bcV n k []=V at *
 have ri:mB "TooGreat" ["many", "most"] (aa (up (af 0)) (aa (up (cC (.int 300))) ak)) [some (.int V)] h=.err ⟨"TooGreat", [("many", V),("most", 300)]⟩ h:=by rfl
 have tn:aR [.int V] h=.err ⟨"TooGreat", [("many", V),("most", 300)]⟩ h:=by
  simp[aR,bj,up,c,ri]
 generalize rsD n=J at *
 simp[aY,bj,up,a,jc,mc,tn]
noncomputable abbrev TGr (V:Int):D:=.tup [.str "great", .int V,.int 300]
def Mr {V:Int}:aS [.exc "TooGreat" [("many", V),("most", 300)]] h=.ok (TGr V) h:=by rfl
def exQ (w:Wf h) (nr:∀n,d≠.ref n) (e:deep 8 d=true):exitQ h d (h++t)=.ok d h:=by
 have:=f9 (t:=t) w e
 cases d<;>first | exact this | simp_all
def F4:bw=fun ds h=>((bF 3 (oV (a9 (ah aY (aa (up (af 0)) (aa (up (af 1)) ak)))) aS)) ds h).bind (exitQ h):=rfl
def tm {n:Nat}{k:Int}{h:Hh} (w:Wf h) (h1:1<=n) (hn:n<=12) (k0:0<=k) (k1:k<=12) (c:300<bcV n k []):bw [.int n,.int k] h=.ok (TGr (bcV n k [])) h:=by
 have er:=Ks (h:=h) w h1 hn k0 k1 c
 have tb:(a9 (ah aY (aa (up (af 0)) (aa (up (af 1)) ak)))) [some (.int n),some (.int k),none] h=.err ⟨"TooGreat", [("many", bcV n k []),("most", 300)]⟩ h:=by
  simp_all
 have q:=HI (mr:=aS) w tb (show bB.contains "TooGreat" = true by decide) Mr
 have tup:exitQ h (TGr (bcV n k [])) h=.ok (TGr (bcV n k [])) h:=by have:=exQ (t:=[]) (d:=TGr (bcV n k [])) w (fun _ e=>nomatch e) rfl;simp_all
 rw[F4]
 simp[bj,q,tup]
def xZ (w:Wf h) (h1:1<=n) (hn:n<=12) (k0:0<=k) (k1:k<=12) (c:bcV n k []<=300):bw [.int n,.int k] h=.ok (.ref h.length) (h++[.lst ((fll n (bcV n k) n).map tpI)]):=by
 have er:=KL w h1 hn k0 k1 c
 have ex:exitQ h (.ref h.length) (h++[.lst ((fll n (bcV n k) n).map tpI)])=.ok (.ref h.length) (h++[.lst ((fll n (bcV n k) n).map tpI)]):=zW (t:=[]) w (mI (k:=6))
 generalize (fll n (bcV n k) n).map tpI=DU at *
 have tb:(a9 (ah aY (aa (up (af 0)) (aa (up (af 1)) ak)))) [some (.int n),some (.int k),none] h=.ok (.rt (.ref h.length)) (h++[.lst DU]):=by
  simp_all
 have q:=BA (mr:=aS) tb
 rw[F4]
 simp[bj,q,ex]
def Kb {n:Nat}{k:Int}{h:Hh} (w:Wf h) (h1:1<=n) (hn:n<=12) (k0:0<=k) (k1:k<=12) (c:bcV n k []<=300):cB [.int n,.int k] h=.ok (.frl ((fll n (bcV n k) n).map tpI)) h:=by
 have a:=Ca (h:=h) h1 hn k0 k1
 have jc:=kA (n:=n) (k:=k) (h:=h) hn w
 have mc:=jU (n:=n) (k:=k) (i:=2) (env:=[some (.int n),some (.int k),some (.clo "begun_count" [.frl (rsD n),.int k])]) (h:=h) hn (by simp)
 have ol:=Cd (h:=h) (yc (k:=k) hn) h1 hn (fun m hm=>N4 (jR (fQ n k) c m hm) (by decide)) w
 have c':¬ 300<bcV n k []:=by omega
 have tn:aR [.int (bcV n k [])] h=.ok .non h:=by
  simp[aR,bj,up,c']
 generalize bcV n k []=V at *
 generalize (fll n (bcV n k) n).map tpI=W at *
 generalize rsD n=J at *
 simp[cB,bj,up,a,jc,mc,tn,ol]
def HU {n:Nat}{k:Int}{h:Hh} (w:Wf h) (h1:1<=n) (hn:n<=12) (k0:0<=k) (k1:k<=12) (c:bcV n k []<=300):cZ [.int n,.int k] h=.ok (.frl ((fll n (bcV n k) n).map tpI)) h:=by
 have er:=Kb (h:=h) w h1 hn k0 k1 c
 generalize (fll n (bcV n k) n).map tpI=DU at *
 have tb:(a9 (ah cB (aa (up (af 0)) (aa (up (af 1)) ak)))) [some (.int n),some (.int k),none] h=.ok (.rt (.frl DU)) h:=by
  simp_all
 have q:=BA (mr:=aS) tb
 simp[cZ,bj,q]
theorem n9 {k:Nat}{h:Hh}:∀{L:List (List Int)},(∀b∈L,∀x∈b,sml x=true)->cV (toPy (k+2) h) (L.map tpI)=some (L.map fun b=>QD (b.map P4))
 | [],_=>rfl
 | b::L,hs=>by
  have e1:toPy (k+2) h (tpI b)=some (.tuple (b.map P4)):=by
   show(cV (toPy (k+1) h) (b.map D.int)).map QD=_
   rw[iT (hs b NO)];rfl
  rw[NR,cV,e1,n9 fun x hx=>hs x (NH _ hx)]
  rfl
theorem xC:∀{L:List (List Int)},(∀b∈L,b.length<=12)->RF (L.map fun b=>QD (b.map P4))<=24*L.length
 | [],_=>by simp[RF]
 | b::L,hs=>by
  have:=hs b NO
  have:=xC (L:=L) fun x hx=>hs x (NH _ hx)
  rw[NR,RF,R8,kI,OJ];omega
def CW {L:List (List Int)} (hs:∀b∈L,∀x∈b,sml x=true) (hb:∀b∈L,b.length<=12) (hl:L.length<=300):∃s,(∀(h:Hh) (n:Nat),aq h n=some (L.map tpI)->dU [.ref n] h=.ok (.str s) h)/\∀h:Hh,dU [.frl (L.map tpI)] h=.ok (.str s) h:=by
 have bk:R8 (.list (L.map fun b=>QD (b.map P4)))<=8000:=by rw[R8];have:=xC hb;omega
 refine⟨T3 (.list (L.map fun b=>QD (b.map P4))),fun h n e=>?_,fun h'=>?_⟩
 ·have e1:toPy 12 h (.ref n)=some (.list (L.map fun b=>QD (b.map P4))):=by
   show(match aq h n with | some ds=>(cV (toPy (9+2) h) ds).map Tv | none=>none)=_
   rw[e]
   show(cV (toPy (9+2) h) (L.map tpI)).map Tv=_
   rw[n9 hs];rfl
  show kS (.ref n) h=_
  delta kS;simp_all
 ·have e2:toPy 12 h' (.frl (L.map tpI))=some (.list (L.map fun b=>QD (b.map P4))):=by
   show(cV (toPy (9+2) h') (L.map tpI)).map Tv=_
   rw[n9 hs];rfl
  show kS (.frl (L.map tpI)) h'=_
  delta kS;simp_all
def Gq {V:Int} (sV:sml V=true):∃s,∀h:Hh,dU [TGr V] h=.ok (.str s) h:=by
 refine⟨T3 (.tuple [.str "great", .int V,.int 300]),fun h=>?_⟩
 have e1:toPy 11 h (.str "great")=some (.str "great"):=by rfl
 have e2:toPy 11 h (.int V)=some (.int V):=by show(if sml V=true then some (P4 V) else none)=_;simp_all
 have e3:toPy 11 h (.int 300)=some (.int 300):=by kernel_rfl
 have e4:toPy 12 h (TGr V)=some (.tuple [.str "great", .int V,.int 300]):=by
  show(cV (toPy 11 h) [.str "great", .int V,.int 300]).map QD=_
  simp only[cV,e1,e2,e3];rfl
 show kS (TGr V) h=_
 delta kS;rw[e4]
 rfl
end FC
namespace FC
open PySem L2 L2.FE L2.Srt
def wu (r):kT r []=0:=by cases r<;>rfl
theorem i_ (x:Int) (r:Nat):∀xs:List Int,kT (xs.length+1+r) (xs++[x])=kT (xs.length+1+r) xs+(x+1)*100 ^ r
 | []=>by
  rw[show([]:List Int).length+1+r=r+1 by grind,wu]
  show(x+1)*100 ^ r+kT r []=_
  rw[wu,Int.add_zero,Int.zero_add]
 | y::ys=>by
  have e:=i_ x r ys
  rw[show(y::ys).length+1+r=(ys.length+1+r)+1 by grind]
  show(y+1)*100 ^ (ys.length+1+r)+kT (ys.length+1+r) (ys++[x])=(y+1)*100 ^ (ys.length+1+r)+kT (ys.length+1+r) ys+_
  omega
theorem wV (r):∀xs:List Int,∃q,kT (xs.length+r) xs=100 ^ r*q
 | []=>⟨0,by rw[wu,Int.mul_zero]⟩
 | y::ys=>by
  obtain⟨q,e⟩:=wV r ys
  rw[show(y::ys).length+r=(ys.length+r)+1 by grind]
  refine⟨(y+1)*100 ^ ys.length+q,?_⟩
  show(y+1)*100 ^ (ys.length+r)+kT (ys.length+r) ys=_
  grind
def IP (hx:xs.length=m) (hy:ys.length=m) (lt:kT (m+r) xs<kT (m+r) ys):kT (m+r) xs+100 ^ r<=kT (m+r) ys:=by
 obtain⟨a,ea⟩:=wV r xs
 obtain⟨b,eb⟩:=wV r ys
 rw[hx] at ea
 rw[hy] at eb
 have P:(0:Int)<100 ^ r:=SN (by decide)
 rw[ea,eb] at lt ⊢
 have ab:a<b:=Int.lt_of_mul_lt_mul_left lt (by omega)
 have:=Int.mul_le_mul_of_nonneg_left (show a+1<=b by omega) (T4 P)
 grind
theorem vO (hn:n<=12):∀m,m<=n->(fll n B m).Pairwise (fun a b=>kT 20 a<kT 20 b)
 | 0,_=>Pg _ _
 | m+1,hm=>by
  show((fll n B m).flatMap fun xs=>(nxB n B xs).map fun x=>xs++[x]).Pairwise _
  obtain⟨r,er⟩:∃r,20=m+1+r:=⟨19 - m,by omega⟩
  have P:(0:Int)<100 ^ r:=SN (by decide)
  rw[List.pairwise_flatMap]
  constructor
  ·intro xs hx
   have lx:=(c5 m xs hx).1
   rw[PJ]
   refine(Kq (n:=n) (B:=B) (xs:=xs)).imp fun{x y} lt=>?_
   have a:=i_ x r xs
   have b:=i_ y r xs
   simp_all
  ·refine(vO hn m (by omega)).imp_of_mem fun{xs ys} hx hy lt u hu v hv=>?_
   obtain⟨x,hx2,rfl⟩:=Ov.mp hu
   obtain⟨y,hy2,rfl⟩:=Ov.mp hv
   have lx:=(c5 m xs hx).1
   have ly:=(c5 m ys hy).1
   have bx:=(c5 m xs hx).2.snoc (mD hx2)
   have by':=(c5 m ys hy).2.snoc (mD hy2)
   have x1:x<n:=bx.hi x (by simp)
   have y0:0<=y:=by'.lo y (by simp)
   have a:=i_ x r xs
   have b:=i_ y r ys
   rw[lx,<- er] at a
   rw[ly,<- er] at b
   have f:=IP (r:=r+1) lx ly (by grind)
   rw[show m+(r+1)=20 by omega,Int.pow_succ] at f
   rw[a,b]
   have u1:=OZ (show x+1<=99 by omega) (T4 P)
   have u2:=Int.mul_nonneg (show 0<=y+1 by omega) (T4 P)
   omega
def DP (h1:1<=n) (hn:n<=12) (hl:(fll n B n).length<=306):okV (fll n B n)=true:=by
 unfold okV
 simp only[N5,decide_eq_true_eq,NZ]
 refine⟨⟨hl,fun xs hx=>?_⟩,PJ.mpr ((vO hn n (NK _)).imp fun lt e=>by omega)⟩
 obtain⟨l,b⟩:=c5 n xs hx
 refine⟨⟨?_,by omega⟩,fun x hx=>⟨b.lo x hx,by have:=b.hi x hx;omega⟩⟩
 grind
def yO (hn:n<=12):iD (fll n B n)=fll n B n:=(iM (iR _).symm (vO hn n (NK _)) (fY _)).symm
end FC
namespace FC
open PySem L2 L2.FE
noncomputable abbrev CT:=List (List Int × Int)
noncomputable def eS:CT->List Int->Option Int
 | [],_=>none
 | p::r,k=>if p.1=k then some p.2 else eS r k
noncomputable def rG (C:CT) (k:List Int) (v:Int):CT:=if (C.any fun kv=>decide (kv.1=k))=true then C.map (fun kv=>if kv.1=k then (kv.1,v) else kv) else C++[(k,v)]
noncomputable def eK (k:List Int):List Key:=k.map T6
noncomputable def encC (C:CT):List (List Key × D):=C.map fun p=>(eK p.1,.int p.2)
theorem rT:∀{a b:List Int},eK a=eK b->a=b
 | [],[],_=>rfl
 | [],_::_,h=>by simp[eK] at h
 | _::_,[],h=>by simp[eK] at h
 | a::r,b::t,h=>by
  unfold eK at h
  rw[NR,NR] at h
  obtain⟨h1,h2⟩:=List.cons.inj h
  cases h1
  rw[rT h2]
def IK (a b):decide (eK a=eK b)=decide (a=b):=by
 by_cases c:a=b
 ·grind
 ·have:¬ eK a=eK b:=fun z=>c (rT z)
  simp_all
theorem jS (k:List Int):∀C:CT,rE (encC C) (eK k)=(eS C k).map D.int
 | []=>rfl
 | p::r=>by
  show(if eK p.1=eK k then some (D.int p.2) else rE (encC r) (eK k))=(if p.1=k then some p.2 else eS r k).map D.int
  by_cases c:p.1=k
  ·simp_all
  ·rw[if_neg c,if_neg (fun z=>c (rT z)),jS k r]
def Di (C) (k) (v):Bz (encC C) (eK k) (.int v)=encC (rG C k v):=by
 have a:((encC C).any fun kv=>decide (kv.1=eK k))=C.any fun kv=>decide (kv.1=k):=by
  unfold encC
  rw[List.any_map]
  congr 1
  funext p
  exact IK p.1 k
 unfold Bz rG
 rw[a]
 by_cases c:(C.any fun kv=>decide (kv.1=k))=true
 ·rw[if_pos c,if_pos c]
  unfold encC
  rw[Pa,Pa]
  refine O8 fun p _=>?_
  show(if eK p.1=eK k then (eK p.1,D.int v) else (eK p.1,.int p.2))=((eK (if p.1=k then (p.1,v) else p).1),D.int (if p.1=k then (p.1,v) else p).2)
  by_cases z:p.1=k
  ·simp_all
  ·rw[if_neg z,if_neg (fun q=>z (rT q))]
 ·rw[if_neg c,if_neg c]
  unfold encC
  simp
theorem pQ:∀o:List Int,n4 (o.map D.int)=some (eK o)
 | []=>rfl
 | a::r=>by
  have:=pQ r
  rw[NR]
  unfold n4
  rw[this];rfl
def nE (o):lS (.tup (o.map D.int))=some (eK o):=pQ o
def Bm (o):tupK (eK o)=.tup (o.map D.int):=by
 unfold tupK eK
 rw[Pa];rfl
theorem uj {k q:List Int}{v:Int}:∀C:CT,eS (C.map fun kv=>if kv.1=k then (kv.1,v) else kv) q=if q=k then (if (C.any fun kv=>decide (kv.1=k))=true then some v else none) else eS C q
 | []=>by simp[eS]
 | p::C=>by
  have ih:=uj (k:=k) (q:=q) (v:=v) C
  rw[NR,Pf]
  by_cases c:p.1=k
  ·rw[if_pos c]
   show(if p.1=q then some v else eS (C.map _) q)=_
   by_cases z:q=k
   ·simp_all
   ·rw[if_neg (fun e=>z (by simp_all)),ih,if_neg z,if_neg z]
    show _=if p.1=q then some p.2 else eS C q
    grind
  ·rw[if_neg c]
   show(if p.1=q then some p.2 else eS (C.map _) q)=_
   by_cases z:q=k
   ·grind
   ·rw[ih,if_neg z,if_neg z];rfl
theorem vi:∀C:CT,eS (C++[(k,v)]) q=match eS C q with | some w=>some w | none=>if k=q then some v else none
 | []=>rfl
 | p::C=>by
  show(if p.1=q then some p.2 else eS (C++[(k,v)]) q)=match (if p.1=q then some p.2 else eS C q) with | some w=>some w | none=>if k=q then some v else none
  by_cases c:p.1=q
  ·simp_all
  ·rw[if_neg c,if_neg c,vi C]
theorem kH {k:List Int}:∀C:CT,(C.any fun kv=>decide (kv.1=k))=false->eS C k=none
 | [],_=>rfl
 | p::C,h=>by
  rw[Pf,Bool.or_eq_false_iff] at h
  show(if p.1=k then _ else _)=_
  rw[if_neg (of_decide_eq_false h.1),kH C h.2]
def AD (C) (k q) (v):eS (rG C k v) q=if q=k then some v else eS C q:=by
 unfold rG
 cases c:(C.any fun kv=>decide (kv.1=k)) with
 | true=>rw[if_pos rfl,uj,c,if_pos rfl]
 | false=>
  rw[if_neg Og,vi]
  by_cases z:q=k
  ·rw[z,kH C c,if_pos rfl]
  grind
noncomputable def gC (C:CT) (q:List Int):Int:=(eS C q).getD 0
noncomputable def zu (C:CT) (k:List Int) (m:Int):CT:=rG C k (gC C k+m)
def EI (C) (k q) (m):gC (zu C k m) q=gC C q+if q=k then m else 0:=by
 unfold gC zu
 rw[AD]
 by_cases z:q=k
 ·rw[if_pos z,if_pos z,z];rfl
 simp_all
def Bb (h:p∈rG C k v):p.1=k\/∃q∈C,q.1=p.1:=by
 unfold rG at h
 grind
def Iz (h:(C.map (·.1)).Nodup):((rG C k v).map (·.1)).Nodup:=by
 unfold rG
 grind
theorem vy {k:List Int}:∀(C:CT),(C.map (·.1)).Nodup->(C.map fun p=>if p.1=k then p.2 else 0).sum=gC C k
 | [],_=>rfl
 | p::C,h=>by
  rw[NR,Ox] at h
  have ih:=vy (k:=k) C h.2
  rw[NR,SO,ih]
  unfold gC
  show _=(if p.1=k then some p.2 else eS C k).getD 0
  by_cases c:p.1=k
  ·have:eS C k=none:=kH C (by
    grind)
   simp_all
  simp_all
theorem yr {X:Type} [DecidableEq X]:∀(as bs:List X),as.Nodup->(∀a∈as,a∈bs)->as.length<=bs.length
 | [],bs,_,_=>OI _
 | a::as,bs,nd,s=>by
  obtain⟨h1,h2⟩:=Ox.mp nd
  have hm:=s a NO
  have ih:=yr as (bs.erase a) h2 fun x hx=>by
   grind
  grind
theorem qG:∀{C:CT},(C.map (·.1)).Nodup->∀p∈C,eS C p.1=some p.2
 | [],_,p,h=>by cases h
 | q::C,nd,p,h=>by
  rw[NR,Ox] at nd
  show(if q.1=p.1 then some q.2 else eS C p.1)=some p.2
  rcases NV.mp h with rfl | h
  ·simp
  ·rw[if_neg (fun e=>nd.1 (Ov.mpr ⟨p,h,e.symm⟩))]
   exact qG nd.2 p h
noncomputable def leI (p l:Int):Int:=if p<=l then 1 else 0
noncomputable def stP (q:List Int × Int) (L:CT) (p:Nat):CT:=zu L [(p:Int),gI q.1 1+leI p (gI q.1 0)] q.2
noncomputable def stQ (s:Nat) (L:CT) (q:List Int × Int):CT:=(NQ (s+1)).foldl (stP q) L
noncomputable def EC:Nat->CT
 | 0=>[([0,0],1)]
 | j+1=>(EC j).foldl (stQ (j+1)) []
structure EOk (s) (C:CT):Prop where
 nd:(C.map (·.1)).Nodup
 ks:∀p∈C,∃r k:Nat,p.1=[(r:Int),(k:Int)]/\r<=s/\k<=s
def GJ (p l):0<=leI p l/\leI p l<=1:=by unfold leI;omega
def EOk.put {s:Nat}{L:CT}{q:List Int × Int}{p:Nat} (o:EOk (s+1) L) (hq:∃r k:Nat,q.1=[(r:Int),(k:Int)]/\r<=s/\k<=s) (hp:p<=s+1):EOk (s+1) (stP q L p):=by
 obtain⟨r,k,e,hr,hk⟩:=hq
 have l:=GJ p r
 refine⟨Iz o.nd,fun z hz=>?_⟩
 rcases Bb hz with y | ⟨q',hq',y⟩
 ·rw[y,e]
  exact⟨p,(k+leI p r).toNat,by simp[gI];omega,hp,by omega⟩
 ·rw[<- y];exact o.ks q' hq'
theorem EOk.fold {s:Nat}{q:List Int × Int} (hq:∃r k:Nat,q.1=[(r:Int),(k:Int)]/\r<=s/\k<=s):∀(l:List Nat) (L:CT),(∀p∈l,p<=s+1)->EOk (s+1) L->EOk (s+1) (l.foldl (stP q) L)
 | [],L,_,o=>o
 | p::l,L,h,o=>EOk.fold hq l _ (fun x hx=>h x (NH _ hx)) (o.put hq (h p NO))
def B7 (hq:∃r k:Nat,q.1=[(r:Int),(k:Int)]/\r<=s/\k<=s) (o:EOk (s+1) L):EOk (s+1) (stQ (s+1) L q):=
 EOk.fold hq _ L (fun p hp=>by grind) o
theorem xq {s:Nat}:∀(M L:CT),(∀q∈M,∃r k:Nat,q.1=[(r:Int),(k:Int)]/\r<=s/\k<=s)->EOk (s+1) L->EOk (s+1) (M.foldl (stQ (s+1)) L)
 | [],L,_,o=>o
 | q::M,L,h,o=>xq M _ (fun x hx=>h x (NH _ hx)) (B7 (h q NO) o)
theorem pS:∀s,EOk s (EC s)
 | 0=>⟨by simp[EC],fun p hp=>by simp[EC] at hp;simp_all⟩
 | s+1=>xq (EC s) [] (pS s).ks ⟨by simp,fun p hp=>by cases hp⟩
def EOk.len (b:EOk s C):C.length<=(s+1)*(s+1):=by
 have:=yr (C.map (·.1)) ((NQ ((s+1)*(s+1))).map fun i=>[((i / (s+1):Nat):Int),((i % (s+1):Nat):Int)]) b.nd (fun a ha=>by
  obtain⟨p,hp,rfl⟩:=Ov.mp ha
  obtain⟨r,k,e,hr,hk⟩:=b.ks p hp
  rw[e]
  refine Ov.mpr ⟨r*(s+1)+k,O1.mpr ?_,?_⟩
  ·have:r*(s+1)<=s*(s+1):=QO _ hr
   grind
  ·have e1:(r*(s+1)+k) / (s+1)=r:=by
    rw[TY,Nat.mul_add_div (by omega),Nat.div_eq_of_lt (by omega)];omega
   have e2:(r*(s+1)+k) % (s+1)=k:=by
    rw[TY,Nat.mul_add_mod,Nat.mod_eq_of_lt (by omega)]
   grind)
 simp_all
def EOk.Iu (b:EOk s C) (hs:s<=12):C.length<=169:=by
 have:=b.len
 have:(s+1)*(s+1)<=13*13:=Nat.mul_le_mul (by omega) (by omega)
 omega
theorem Cn {q:List Int × Int}{p:Nat}{f:Int}:∀(l:List Nat) (L:CT),l.Nodup->gC (l.foldl (stP q) L) [(p:Int),f]=gC L [(p:Int),f]+if p∈l/\f=gI q.1 1+leI p (gI q.1 0) then q.2 else 0
 | [],L,_=>by simp
 | x::l,L,nd=>by
  obtain⟨n1,n2⟩:=Ox.mp nd
  rw[Qg,Cn l _ n2]
  unfold stP
  rw[EI]
  grind
theorem Be {s p:Nat}{f:Int} (hp:p<=s):∀(M L:CT),gC (M.foldl (stQ s) L) [(p:Int),f]=gC L [(p:Int),f]+(M.map fun q=>if f=gI q.1 1+leI p (gI q.1 0) then q.2 else 0).sum
 | [],L=>by simp
 | q::M,L=>by
  rw[Qg,Be hp M,NR,SO]
  unfold stQ
  rw[Cn _ _ SV]
  grind
theorem ke {s:Nat} (F:Nat->Int):∀(M:CT),(∀q∈M,∃r k:Nat,q.1=[(r:Int),(k:Int)]/\r<=s/\k<=s)->(M.map fun q=>if gI q.1 1=F (gI q.1 0).toNat then q.2 else 0).sum=sg (fun l=>(M.map fun q=>if q.1=[(l:Int),F l] then q.2 else 0).sum) (s+1)
 | [],_=>by simp[qv]
 | q::M,h=>by
  obtain⟨r,k,e,hr,hk⟩:=h q NO
  have ih:=ke F M fun x hx=>h x (NH _ hx)
  rw[NR,SO,ih]
  have g0:gI q.1 0=r:=by rw[e];rfl
  have g1:gI q.1 1=k:=by rw[e];rfl
  rw[g0,g1]
  have key:∀n,sg (fun l=>((q::M).map fun q=>if q.1=[(l:Int),F l] then q.2 else 0).sum) n=(if r<n/\(k:Int)=F r then q.2 else 0)+sg (fun l=>(M.map fun q=>if q.1=[(l:Int),F l] then q.2 else 0).sum) n:=by
   intro n
   induction n with
   | zero=>rfl
   | succ n ihn=>
    rw[nK,nK,ihn,NR,SO,e]
    grind
  grind
theorem wX (f):∀n,sg (fun i=>f (n - 1 - i)) n=sg f n
 | 0=>rfl
 | n+1=>by
  have a:=B6 (fun i=>f (n+1 - 1 - i)) 1 n
  rw[Nat.add_comm 1 n] at a
  rw[a,nK,EV,nK]
  have:sg (fun i=>f (n+1 - 1 - (1+i))) n=sg (fun i=>f (n - 1 - i)) n:=gQ fun i hi=>by
   grind
  rw[this,wX f n]
  grind
theorem AV:∀(s p:Nat) (f:Int),p<=s->gC (EC s) [(p:Int),f]=Rn s ((s:Int) - p) f
 | 0,p,f,h=>by
  have:p=0:=by omega
  subst this
  show(if [(0:Int),0]=[((0:Nat):Int),f] then some (1:Int) else none).getD 0=if f=0 then 1 else 0
  grind
 | s+1,p,f,h=>by
  have b:=pS s
  show gC ((EC s).foldl (stQ (s+1)) []) [(p:Int),f]=_
  rw[Be h]
  have e1:((EC s).map fun q=>if f=gI q.1 1+leI p (gI q.1 0) then q.2 else 0)=(EC s).map fun q=>if gI q.1 1=(fun l:Nat=>f - leI p l) (gI q.1 0).toNat then q.2 else 0:=O8 fun q hq=>by
   obtain⟨r,k,e,_,_⟩:=b.ks q hq
   rw[e]
   have g0:gI [(r:Int),(k:Int)] 0=r:=rfl
   grind
  rw[e1,ke (fun l=>f - leI p l) (EC s) b.ks]
  have e2:sg (fun l=>((EC s).map fun q=>if q.1=[(l:Int),(fun l:Nat=>f - leI p l) l] then q.2 else 0).sum) (s+1)=sg (fun l=>(fun(r:Nat)=>Rn s r (f - lss r (((s+1:Nat):Int) - p))) (s+1 - 1 - l)) (s+1):=gQ fun l hl=>by
   show((EC s).map fun q=>if q.1=[(l:Int),f - leI p l] then q.2 else 0).sum=Rn s ((s+1 - 1 - l:Nat):Int) (f - lss (s+1 - 1 - l) (((s+1:Nat):Int) - p))
   rw[vy _ b.nd,AV s l _ (by omega),show((s+1 - 1 - l:Nat):Int)=(s:Int) - l by omega]
   congr 2
   unfold leI lss
   omega
  rw[e2,wX (fun(r:Nat)=>Rn s r (f - lss r (((s+1:Nat):Int) - p))) (s+1)]
  show 0+Rn (s+1) (((s+1:Nat):Int) - p) f=_
  omega
def Ir:((EC s).map fun q=>if gI q.1 1=k then q.2 else 0).sum=Rn (s+1) 0 k:=by
 have b:=pS s
 have:=ke (fun _=>k) (EC s) b.ks
 rw[this]
 have e2:sg (fun l=>((EC s).map fun q=>if q.1=[(l:Int),k] then q.2 else 0).sum) (s+1)=sg (fun l=>(fun r:Nat=>Rn s r k) (s+1 - 1 - l)) (s+1):=gQ fun l hl=>by
  show _=Rn s ((s+1 - 1 - l:Nat):Int) k
  rw[vy _ b.nd,AV s l _ (by omega),show((s+1 - 1 - l:Nat):Int)=(s:Int) - l by omega]
 rw[e2,wX (fun r:Nat=>Rn s r k) (s+1)]
 show _=sg (fun r=>Rn s r (k - lss r 0)) (s+1)
 refine gQ fun r _=>?_
 have:lss r 0=0:=if_neg (by omega)
 simp_all
noncomputable def hpD (s:Nat) (L:CT):Hh:=((NQ (s+1)).map fun j=>O.dit (encC (EC j)))++[.dit (encC L)]
def FI:cG (hpD s L) s=some (encC (EC s)):=by
 unfold cG hpD
 grind
def AW:cG (hpD s L) (s+1)=some (encC L):=by
 unfold cG hpD
 simp
def Fy:(hpD s L).set (s+1) (.dit (encC M))=hpD s M:=by
 unfold hpD
 simp
noncomputable def HEC (s:Nat):Hh:=(NQ (s+1)).map fun j=>O.dit (encC (EC j))
def Hr (s):hpD s (EC (s+1))=HEC (s+1):=by
 unfold hpD HEC
 rw[Ro (n:=s+1),R7];rfl
noncomputable def CE8:ME:=(ah cn (aa (af 7) (aa (av (bY aI) (af 6) (ah Dd (aa (av dLe (af 7) (af 5)) ak))) ak)))
noncomputable def PLB:MS:=(aH (aW 8 CE8) (i3 qr (af 4) (af 8) (av (bY aI) (mO (af 4) (af 8) (cC (.int 0))) (av gW (af 2) (ah cn (aa (af 5) (aa (af 6) ak)))))))
def IC {s l f p:Nat}{m:Int}{L:CT}{d0 d1 d3 y8:Option D} (hv:eS (EC s) [(l:Int),(f:Int)]=some m) (hL:L.length<=900000):∃z8,PLB [d0,d1,some (.ref s),d3,some (.ref (s+1)),some (.int l),some (.int f),some (.int p),y8] (hpD s L)=.ok (.nx [d0,d1,some (.ref s),d3,some (.ref (s+1)),some (.int l),some (.int f),some (.int p),z8]) (hpD s (stP ([(l:Int),(f:Int)],m) L p)):=by
 obtain⟨t,ht⟩:∃t:Int,(f:Int)+leI p l=t:=⟨_,rfl⟩
 refine⟨some (.tup [.int p,.int t]),?_⟩
 have es:stP ([(l:Int),(f:Int)],m) L p=zu L [(p:Int),t] m:=by
  unfold stP
  have g0:gI [(l:Int),(f:Int)] 0=l:=rfl
  have g1:gI [(l:Int),(f:Int)] 1=f:=rfl
  simp_all
 rw[es]
 have k8:CE8 [d0,d1,some (.ref s),d3,some (.ref (s+1)),some (.int l),some (.int f),some (.int p),y8] (hpD s L)=.ok (.tup [.int p,.int t]) (hpD s L):=by
  unfold leI at ht
  unfold CE8
  simp_all
 have ky:lS (.tup [.int (p:Int),.int t])=some (eK [(p:Int),t]):=nE [(p:Int),t]
 have kl:lS (.tup [.int (l:Int),.int (f:Int)])=some (eK [(l:Int),(f:Int)]):=nE [(l:Int),(f:Int)]
 have gt:mO (af 4) (af 8) (cC (.int 0)) [d0,d1,some (.ref s),d3,some (.ref (s+1)),some (.int l),some (.int f),some (.int p),some (.tup [.int p,.int t])] (hpD s L)=.ok (.int (gC L [(p:Int),t])) (hpD s L):=by
  unfold mO
  show(match cG (hpD s L) (s+1) with | some _=>_ | none=>R.bad)=_
  rw[AW]
  show qZ (.ref (s+1)) (.tup [.int (p:Int),.int t]) (.int 0) (hpD s L)=_
  unfold qZ
  rw[ky]
  dsimp only
  rw[AW]
  dsimp only
  rw[jS]
  unfold gC
  simp
 have gl:gW (.ref s) (.tup [.int (l:Int),.int (f:Int)]) (hpD s L)=.ok (.int m) (hpD s L):=by
  unfold gW
  rw[kl]
  dsimp only
  rw[FI]
  dsimp only
  rw[jS,hv]
  rfl
 have pu:qr (.ref (s+1)) (.tup [.int (p:Int),.int t]) (.int (gC L [(p:Int),t]+m)) (hpD s L)=.ok () (hpD s (zu L [(p:Int),t] m)):=by
  unfold qr
  rw[ky]
  dsimp only
  rw[AW]
  dsimp only
  rw[if_pos (by unfold encC;grind),Di,Fy]
  rfl
 generalize gC L [(p:Int),t]=G at *
 generalize hpD s (zu L [(p:Int),t] m)=H2 at *
 unfold PLB
 simp_all
theorem yG {s l f:Nat}{m:Int}{d0 d1 d3:Option D} (hs:s<12) (hl:l<=s) (hf:f<=s) (hv:eS (EC s) [(l:Int),(f:Int)]=some m):∀(ps:List Nat) (L:CT) (y7 y8:Option D),(∀p∈ps,p<=s+1)->EOk (s+1) L->∃z7 z8,cI (gN 7) PLB (ps.map fun(p:Nat)=>D.int p) [d0,d1,some (.ref s),d3,some (.ref (s+1)),some (.int l),some (.int f),y7,y8] (hpD s L)=.ok (.nx [d0,d1,some (.ref s),d3,some (.ref (s+1)),some (.int l),some (.int f),z7,z8]) (hpD s (ps.foldl (stP ([(l:Int),(f:Int)],m)) L))
 | [],L,y7,y8,_,_=>⟨y7,y8,rfl⟩
 | p::ps,L,y7,y8,h,o=>by
  have ll:=o.Iu (by omega)
  obtain⟨z8,e⟩:=IC (s:=s) (l:=l) (f:=f) (p:=p) (m:=m) (L:=L) (d0:=d0) (d1:=d1) (d3:=d3) (y8:=y8) hv (by omega)
  obtain⟨u7,u8,q⟩:=yG (d0:=d0) (d1:=d1) (d3:=d3) hs hl hf hv ps _ (some (.int p)) z8 (fun x hx=>h x (NH _ hx)) (o.put (q:=([(l:Int),(f:Int)],m)) ⟨l,f,rfl,hl,hf⟩ (h p NO))
  refine⟨u7,u8,?_⟩
  rw[NR,fK]
  simp_all
noncomputable def KB:MS:=(cx (dY fw (aa (av (bY aI) (af 3) (cC (.int 1))) ak)) (gN 7) PLB)
theorem sZ {s:Nat}{d0 d1:Option D} (hs:s<12):∀(M L:CT) (y5 y6 y7 y8:Option D),(∀q∈M,q∈EC s)->EOk (s+1) L->∃z5 z6 z7 z8,cI (gT2 5 6) KB (M.map fun p=>D.tup (p.1.map D.int)) [d0,d1,some (.ref s),some (.int ((s:Int)+1)),some (.ref (s+1)),y5,y6,y7,y8] (hpD s L)=.ok (.nx [d0,d1,some (.ref s),some (.int ((s:Int)+1)),some (.ref (s+1)),z5,z6,z7,z8]) (hpD s (M.foldl (stQ (s+1)) L))
 | [],L,y5,y6,y7,y8,_,_=>⟨y5,y6,y7,y8,rfl⟩
 | p::M,L,y5,y6,y7,y8,hM,b=>by
  have bs:=pS s
  have hp:=hM p NO
  obtain⟨l,f,e,hl,hf⟩:=bs.ks p hp
  have hv:=qG bs.nd p hp
  rw[e] at hv
  have pe:p=([(l:Int),(f:Int)],p.2):=by grind
  obtain⟨z7,z8,q⟩:=yG (d0:=d0) (d1:=d1) (d3:=some (.int ((s:Int)+1))) hs hl hf hv (NQ (s+1+1)) L y7 y8 (fun x hx=>by grind) b
  rw[<- pe] at q
  have q:cI (gN 7) PLB ((NQ (s+1+1)).map fun(p:Nat)=>D.int p) [d0,d1,some (.ref s),some (.int ((s:Int)+1)),some (.ref (s+1)),some (.int l),some (.int f),y7,y8] (hpD s L)=.ok (.nx [d0,d1,some (.ref s),some (.int ((s:Int)+1)),some (.ref (s+1)),some (.int l),some (.int f),z7,z8]) (hpD s (stQ (s+1) L p)):=q
  rw[<- dH] at q
  obtain⟨u5,u6,u7,u8,o⟩:=sZ (d0:=d0) (d1:=d1) hs M (stQ (s+1) L p) (some (.int l)) (some (.int f)) z7 z8 (fun x hx=>hM x (NH _ hx)) (B7 ⟨l,f,e,hl,hf⟩ b)
  refine⟨u5,u6,u7,u8,?_⟩
  rw[NR,fK,e]
  have g:gT2 5 6 (.tup (([(l:Int),(f:Int)]:List Int).map D.int)) [d0,d1,some (.ref s),some (.int ((s:Int)+1)),some (.ref (s+1)),y5,y6,y7,y8] (hpD s L)=.ok [d0,d1,some (.ref s),some (.int ((s:Int)+1)),some (.ref (s+1)),some (.int l),some (.int f),y7,y8] (hpD s L):=rfl
  have z1:((s:Int)+1+1).natAbs<=1000000:=by omega
  have z2:((s:Int)+1+1).toNat=s+1+1:=by omega
  have z3:s+1+1<=1000000:=by omega
  have kb:KB [d0,d1,some (.ref s),some (.int ((s:Int)+1)),some (.ref (s+1)),some (.int l),some (.int f),y7,y8] (hpD s L)=.ok (.nx [d0,d1,some (.ref s),some (.int ((s:Int)+1)),some (.ref (s+1)),some (.int l),some (.int f),z7,z8]) (hpD s (stQ (s+1) L p)):=by
   generalize hpD s (stQ (s+1) L p)=H2 at *
   generalize hpD s L=H1 at *
   simp[KB,z1,z2,z3,q]
  rw[g,cP,kb,cP]
  exact o
noncomputable def SZB:MS:=(aH (aW 4 xW) (aH (cx (bp (ah (gK aI) (aa (af 2) ak))) (gT2 5 6) KB) (aW 2 (af 4))))
def tV (e:cG H s=some (encC C)):gK aI [.ref s] H=.ok (.frl (C.map fun p=>D.tup (p.1.map D.int))) H:=by
 unfold gK
 dsimp only
 rw[e]
 dsimp only
 have:((encC C).map fun kv=>tupK kv.1)=C.map fun p=>D.tup (p.1.map D.int):=by
  unfold encC
  rw[Pa]
  exact O8 fun p _=>Bm p.1
 simp_all
def Il {s:Nat}{d0 d1 y4 y5 y6 y7 y8:Option D} (hs:s<12):∃z4 z5 z6 z7 z8,SZB [d0,d1,some (.ref s),some (.int ((s:Int)+1)),y4,y5,y6,y7,y8] (HEC s)=.ok (.nx [d0,d1,some (.ref (s+1)),some (.int ((s:Int)+1)),z4,z5,z6,z7,z8]) (HEC (s+1)):=by
 obtain⟨z5,z6,z7,z8,q⟩:=sZ (s:=s) (d0:=d0) (d1:=d1) hs (EC s) [] y5 y6 y7 y8 (fun p hp=>hp) ⟨by simp,fun p hp=>by cases hp⟩
 have eq:(EC s).foldl (stQ (s+1)) []=EC (s+1):=rfl
 rw[eq,Hr] at q
 refine⟨some (.ref (s+1)),z5,z6,z7,z8,?_⟩
 have tn:∀env:En,xW env (HEC s)=.ok (.ref (s+1)) (hpD s []):=fun env=>by
  have l:(HEC s).length=s+1:=by simp[HEC]
  show R.ok (D.ref (HEC s).length) (HEC s++[.dit []])=_
  rw[l];rfl
 have ks:=tV (FI (s:=s) (L:=[]))
 have l1:((EC s).map fun p=>D.tup (p.1.map D.int)).length<=1000000:=by
  have:=(pS s).Iu (by omega)
  grind
 generalize HEC (s+1)=H2 at *
 generalize hpD s []=H1 at *
 generalize HEC s=H0 at *
 generalize ((EC s).map fun p=>D.tup (p.1.map D.int))=KS at *
 simp[SZB,tn,ks,l1,q]
def xT {n:Nat} (h1:1<=n) (hn:n<=12):cW [.int n,.int k] h=.ok (.int (Rn n 0 k)) h:=by
 obtain⟨s,lp,ei⟩:=qB (σ:=Nat × Option D × Option D × Option D × Option D × Option D × Option D) (tg:=gN 3) (body:=SZB) (fun(i:Nat)=>D.int (1+i)) (n - 1) (fun s=>[some (.int n),some (.int k),some (.ref s.1),s.2.1,s.2.2.1,s.2.2.2.1,s.2.2.2.2.1,s.2.2.2.2.2.1,s.2.2.2.2.2.2]) (fun s=>HEC s.1) (fun i s=>s.1=i) (fun i s hi hs=>by
  obtain⟨j,y3,y4,y5,y6,y7,y8⟩:=s
  dsimp only at hs
  subst hs
  obtain⟨z4,z5,z6,z7,z8,q⟩:=Il (s:=j) (d0:=some (.int n)) (d1:=some (.int k)) (y4:=y4) (y5:=y5) (y6:=y6) (y7:=y7) (y8:=y8) (by omega)
  exact⟨(j+1,some (.int (1+j)),z4,z5,z6,z7,z8),rfl,by simp only[GZ,cP,Uw];grind⟩) (n - 1) 0 (0,none,none,none,none,none,none) (by omega) rfl
 obtain⟨j,y3,y4,y5,y6,y7,y8⟩:=s
 dsimp only at lp ei
 subst ei
 have dn:cG (HEC (n - 1)) (n - 1)=some (encC (EC (n - 1))):=by
  unfold cG HEC
  simp
 have ks:=tV dn
 have b:=pS (n - 1)
 have l1:((EC (n - 1)).map fun p=>D.tup (p.1.map D.int)).length<=1000000:=by
  have:=b.Iu (by omega)
  grind
 have qc:cN (aJ asB (av dEq (av dIx (af 0) (cC (.int 1))) (af 2))) (av gW (af 1) (af 0)) (fun x=>[some x,some (.ref (n - 1)),some (.int k)]) ((EC (n - 1)).map fun p=>D.tup (p.1.map D.int)) (HEC (n - 1))=.ok (((EC (n - 1)).filter fun q=>decide (gI q.1 1=k)).map fun q=>D.int q.2) (HEC (n - 1)):=
  comp_map (fun p:List Int × Int=>D.tup (p.1.map D.int)) (fun q=>decide (gI q.1 1=k)) (fun q=>D.int q.2) (EC (n - 1)) fun p hp=>by
   obtain⟨l,f,e,hl,hf⟩:=b.ks p hp
   have hv:=qG b.nd p hp
   have gl:gW (.ref (n - 1)) (.tup (p.1.map D.int)) (HEC (n - 1))=.ok (.int p.2) (HEC (n - 1)):=by
    unfold gW
    rw[nE]
    dsimp only
    rw[dn]
    dsimp only
    rw[jS,hv]
    rfl
   have i1:ixK (p.1.map D.int) 1 (HEC (n - 1))=.ok (.int (gI p.1 1)) (HEC (n - 1)):=jr (j:=1) rfl (by grind)
   generalize p.1.map D.int=PK at *
   generalize HEC (n - 1)=H at *
   exact⟨by simp[i1];rfl,fun _=>by simp[gl]⟩
 have sm:(((EC (n - 1)).filter fun q=>decide (gI q.1 1=k)).map fun q=>q.2).sum=Rn n 0 k:=by
  have e:=Ir (s:=n - 1) (k:=k)
  rw[show n - 1+1=n by omega] at e
  rw[<- e]
  generalize EC (n - 1)=M
  induction M with
  | nil=>rfl
  | cons q M ih=>
   grind
 have em:(((EC (n - 1)).filter fun q=>decide (gI q.1 1=k)).map fun q=>D.int q.2)=(((EC (n - 1)).filter fun q=>decide (gI q.1 1=k)).map fun q=>q.2).map D.int:=by simp
 rw[em] at qc
 have ex:bg [] (.int (Rn n 0 k)) (HEC (n - 1))=.ok (.int (Rn n 0 k)) []:=by
  rfl
 have dsp:∀env:En,rX (ah cn (aa (cC (.int 0)) (aa (cC (.int 0)) ak))) (cC (.int 1)) env []=.ok (.ref 0) (HEC 0):=fun env=>rfl
 have lp:cI (gN 3) SZB (bD 1 (n - 1)) [some (.int n),some (.int k),some (.ref 0),none,none,none,none,none,none] (HEC 0)=.ok (.nx [some (.int n),some (.int k),some (.ref (n - 1)),y3,y4,y5,y6,y7,y8]) (HEC (n - 1)):=by
  rw[<- lp,<- Qa];rfl
 have z0:((n:Int) - 1).toNat=n - 1:=by omega
 have z1:(n:Int).natAbs<=1000000:=by omega
 have z2:n - 1<=1000000:=by omega
 have z3:n<=1000000:=by omega
 have e2:cW=pA (fun ds h=>((bF 9 (aH (aW 2 (rX (ah cn (aa (cC (.int 0)) (aa (cC (.int 0)) ak))) (cC (.int 1)))) (aH (cx (dY qT (aa (cC (.int 1)) (aa (af 0) ak))) (gN 3) SZB) (a9 (ah yR (aa (c7 aI (bp (ah (gK aI) (aa (af 2) ak))) [2,1] (aJ asB (av dEq (av dIx (af 0) (cC (.int 1))) (af 2))) (av gW (af 1) (af 0))) ak)))))) ds h).bind (bg h)):=rfl
 rw[e2]
 have lo:a8 0 [.int (n:Int),.int k]=true:=rfl
 generalize HEC 0=H0 at *
 generalize HEC (n - 1)=H1 at *
 generalize Rn n 0 k=V at *
 generalize ((EC (n - 1)).map fun p=>D.tup (p.1.map D.int))=KS at *
 generalize (((EC (n - 1)).filter fun q=>decide (gI q.1 1=k)).map fun q=>q.2)=W at *
 simp[pA,lo,bj,dsp,z0,z1,z2,z3,lp,ks,l1,qc,sm,ex,gT]
def Bo {n:Nat}{k:Int}:bcV n k []=Rn n 0 k:=by
 show Rn (n - 0) (lwI []) (k - ((bo []).length:Int))=_
 have e:(bo []).length=0:=rfl
 rw[e,Nat.sub_zero]
 simp[lwI]
def K2 {V:Int}:dEq (TGr V) (.tup [.str "great", .int V,.int 300]) h=.ok (.bl true) h:=by
 have i:∀x:Int,eqD 11 h (.int x) (.int x)=some true:=fun x=>by show some (x == x)=_;simp
 have g:eqD 11 h (.str "great") (.str "great")=some true:=by rfl
 have:eqD eqN h (TGr V) (TGr V)=some true:=by
  show eqL (eqD 11 h) [.str "great", .int V,.int 300] [.str "great", .int V,.int 300]=some true
  simp only[eqL,i,g];rfl
 simp only[dEq,this]
def B_ {n:Nat}{k:Int}{h:Hh} (w:Wf h) (h1:1<=n) (hn:n<=12) (k0:0<=k) (k1:k<=12) (c:300<bcV n k []):aM [.int n,.int k] h=.ok (.bl true) h:=by
 have lm:=xT (k:=k) (h:=h) h1 hn
 have rt:=tm w h1 hn k0 k1 c
 rw[Bo] at rt c
 generalize Rn n 0 k=V at *
 have ex:bg h (.bl true) h=.ok (.bl true) h:=by have:=f9 (h:=h) (t:=[]) (d:=.bl true) w rfl;simp_all
 have te:=K2 (V:=V) (h:=h)
 simp[aM,bj,lm,rt,c,te,ex]
theorem xP (k:Nat) (h:Hh):∀L:List (List Int),eqL (eqD (k+2) h) (L.map tpI) (L.map tpI)=some true
 | []=>rfl
 | x::L=>by
  have e1:eqD (k+2) h (tpI x) (tpI x)=some true:=by
   show eqL (eqD (k+1) h) (x.map D.int) (x.map D.int)=some true
   rw[qf];simp
  simp only[NR,eqL,e1,xP k h L];rfl
def MW {L:List (List Int)}{h:Hh}{r:Nat} (e:aq h r=some (L.map tpI)):dNe (.ref r) (.frl (L.map tpI)) h=.ok (.bl false) h:=by
 have:eqD eqN h (.ref r) (.frl (L.map tpI))=some true:=by
  have v:vw (.ref r) h=vw (.frl (L.map tpI)) h:=by simp[vw,e]
  have q:eqD eqN h (.frl (L.map tpI)) (.frl (L.map tpI))=some true:=by
   show(if (L.map tpI).length=(L.map tpI).length then eqL (eqD (9+2) h) (L.map tpI) (L.map tpI) else some false)=some true
   rw[if_pos rfl,xP]
  have w:eqD eqN h (.ref r) (.frl (L.map tpI))=eqD eqN h (.frl (L.map tpI)) (.frl (L.map tpI)):=by
   show eqD 12 h _ _=eqD 12 h _ _
   unfold eqD
   rw[v]
   rfl
  rw[w,q]
 simp only[dNe,this];rfl
def DI {L:List (List Int)}{h:Hh}{r:Nat} (e:aq h r=some (L.map tpI)) (ok:okV L=true):kc aI [.ref r] h=.ok (.frl ((iD L).map tpI)) h:=by
 unfold kc
 have e2:fW (L.map tpI)=some L:=nF L
 simp only[gM,e,e2]
 rw[if_pos ok];rfl
noncomputable def GB:MS:=(eV (qN (aJ asB (av dNe (ah dU (aa (ah (lg aI) (aa (af 4) ak)) ak)) (ah dU (aa (ah (iX aI) (aa (af 0) ak)) ak)))) (aJ asB (av dNe (ah cU (aa (ah bh (aa (af 4) ak)) ak)) (af 1)))) (a9 (cC (.bl false))) cF)
def K0:aM=fun ds h=>((bF 6 (aH (aW 2 (ah cW (aa (af 0) (aa (af 1) ak))))
  (aH (aW 3 (ah bw (aa (af 0) (aa (af 1) ak))))
  (aH (eV (aJ asB (av dGt (af 2) (cC (.int 300)))) (a9 (av dEq (af 3) (ah cn (aa (cC (.str "great")) (aa (af 2) (aa (cC (.int 300)) ak)))))) cF)
  (aH (eV (qN (iF (aJ kD (cUn (kK "list") (af 3)))) (qN (aJ asB (av dNe (ah cU (aa (af 3) ak)) (af 2))) (aJ asB (av dNe (af 3) (ah (kc aI) (aa (af 3) ak)))))) (a9 (cC (.bl false))) cF)
  (aH (cx (bp (af 3)) (gN 4) GB)
  (aH (aW 5 (ah dU (aa (af 3) ak)))
  (aH (eB (dZ di (af 3) (aa (ah cn ak) ak)))
  (a9 (av dEq (ah dU (aa (ah cZ (aa (af 0) (aa (af 1) ak))) ak)) (af 5))))))))))) ds h).bind (bg h):=rfl
theorem wR {L:List Int} (so:L.Pairwise (· < ·)){i:Nat}:∀j,i+j<L.length->gI L i+j<=gI L (i+j)
 | 0,_=>by simp
 | j+1,h=>by
  have ih:=wR so (i:=i) j (by omega)
  have:=NW.mp so (i+j) (i+j+1) (by omega) (by omega) (by omega)
  rw[<- dg (by omega),<- dg (by omega)] at this
  grind
def BX {os:List Int} (o:Ord n os):sortI os=dQ 0 n:=by
 have p:=sortI_perm os
 have nd:(sortI os).Nodup:=p.nodup_iff.mpr o.nd
 have so:(sortI os).Pairwise (· < ·):=by
  have a:=f7 os
  rw[NW] at a ⊢
  intro i j hi hj h
  have:=a i j hi hj h
  have:=NW.mp nd i j hi hj h
  omega
 have l:(sortI os).length=n:=by rw[p.length_eq,o.len]
 refine F7 (by rw[l,n_]) fun i hi=>?_
 have a:=wR so (i:=0) i (by omega)
 have b:=wR so (i:=i) (n - 1 - i) (by omega)
 rw[show i+(n - 1 - i)=n - 1 by omega] at b
 have m0:=Ck (ns:=sortI os) (j:=0) (by omega)
 have m1:=Ck (ns:=sortI os) (j:=n - 1) (by omega)
 have:=o.lo _ (p.mem_iff.mp m0)
 have:=o.hi _ (p.mem_iff.mp m1)
 rw[P5] at a
 have:gI (dQ 0 n) i=i:=by rw[dg (by rw[n_];omega)];simp[dQ]
 omega
def pE {xs:List Int}{h:Hh} (hl:xs.length<=1000):bh [.tup (xs.map D.int)] h=.ok (.frl ((bo xs).map D.int)) h:=by
 by_cases c:xs.length=0
 ·have:xs=[]:=OM c
  subst this
  rfl
 ·have z1:((xs.length:Int) - 1).natAbs<=1000000:=by omega
  have z2:((xs.length:Int) - 1).toNat=xs.length - 1:=by omega
  have z3:xs.length - 1<=1000000:=by omega
  have q:=pD (xs:=xs) (h:=h) (d:=.tup (xs.map D.int)) (fun i=>FU)
  simp[bh,bj,z1,z2,z3,q]
def CB {xs:List Int} (hs:∀x∈xs,sml x=true) (hl:xs.length<=1000):∃s,∀h:Hh,dU [.frl (xs.map D.int)] h=.ok (.str s) h:=by
 refine⟨T3 (.list (xs.map P4)),fun h=>?_⟩
 have e:toPy 12 h (.frl (xs.map D.int))=some (.list (xs.map P4)):=by
  show(cV (toPy (10+1) h) (xs.map D.int)).map Tv=_
  rw[iT hs];rfl
 have bk:R8 (.list (xs.map P4))<=8000:=by rw[R8,kI];omega
 show kS (.frl (xs.map D.int)) h=_
 delta kS;simp_all
def JI {n:Nat}{k:Int}{xs:List Int}{d2 d3 d5:Option D}{h:Hh} (h1:1<=n) (hn:n<=12) (o:Ord n xs) (f:((bo xs).length:Int)=k):GB [some (.int n),some (.int k),d2,d3,some (.tup (xs.map D.int)),d5] h=.ok (.nx [some (.int n),some (.int k),d2,d3,some (.tup (xs.map D.int)),d5]) h:=by
 have xl:=o.len
 have fa:=pE (xs:=xs) (h:=h) (by omega)
 have so:lg aI [.tup (xs.map D.int)] h=.ok (.frl ((dQ 0 n).map D.int)) h:=by
  have:lg aI [.tup (xs.map D.int)] h=if xs.length<64 then aI ((sortI xs).map D.int) h else .bad:=by
   simp
  rw[this,if_pos (by omega),BX o];rfl
 have z2:(n:Int).natAbs<=1000000:=by omega
 have z3:n<=1000000:=by omega
 obtain⟨s,rp⟩:=CB (xs:=dQ 0 n) (fun x hx=>by
  rw[dQ,Ov] at hx
  obtain⟨j,hj,rfl⟩:=hx
  have:=O1.mp hj
  exact eF (by omega) (by omega)) (by simp[dQ];omega)
 have rp':=rp h
 have er:(dQ 0 n).map D.int=bD 0 n:=by simp[dQ,bD]
 rw[er] at so rp'
 have l5:((((bo xs).map D.int).length:Nat):Int)=k:=by simp_all
 generalize (bo xs).map D.int=FA at *
 generalize xs.map D.int=X at *
 simp[GB,so,z2,z3,rp',fa,l5]
def Li {L:List (List Int)} (h1:1<=n) (hn:n<=12) (er:aq H r=some (L.map tpI)) (ho:∀xs∈L,Ord n xs/\((bo xs).length:Int)=k):∃z,(cx (bp (af 3)) (gN 4) GB) [some (.int n),some (.int k),d2,some (.ref r),y,none] H=.ok (.nx [some (.int n),some (.int k),d2,some (.ref r),z,none]) H:=by
 have s:bp (af 3) [some (.int n),some (.int k),d2,some (.ref r),y,none] H=.ok (.live r) H:=by
  show(af 3 [some (.int n),some (.int k),d2,some (.ref r),y,none] H).bind r8=_
  have:af 3 [some (.int n),some (.int k),d2,some (.ref r),y,none] H=.ok (.ref r) H:=by simp
  rw[this,cP,A8 er]
 have rd:∀i,(Src.live r).rdr H i=some ((L.map tpI)[i]?):=fun i=>by simp only[Src.rdr];grind
 have f:(Src.live r).fuel H=L.length:=by simp[Src.fuel,er]
 obtain⟨z,lp,_⟩:=Fn (σ:=Option D) (rd:=(Src.live r).rdr) (tg:=gN 4) (body:=GB) (fun i=>tpI (L.getD i [])) L.length (fun z=>[some (.int n),some (.int k),d2,some (.ref r),z,none]) (fun _=>H) (fun _ _=>True)
  (fun _ i hi=>by simp_all)
  (fun _=>by simp_all)
  (fun i z hi _=>by
   have e:L.getD i []=L[i]:=by simp_all
   obtain⟨o,fk⟩:=ho _ (RP hi)
   refine⟨some (tpI L[i]),trivial,?_⟩
   have g:=JI (d2:=d2) (d3:=some (.ref r)) (d5:=none) (h:=H) h1 hn o fk
   rw[e]
   assumption) L.length 0 y (by omega) trivial
 refine⟨z,?_⟩
 rw[JX,s,cP]
 show eX (Src.live r).rdr (gN 4) GB ((Src.live r).fuel H) 0 _ H=_
 simp_all
def mK {n:Nat}{k:Int} (h1:1<=n) (hn:n<=12) (c:bcV n k []<=300):((fll n (bcV n k) n).length:Int)=bcV n k []/\∀xs∈fll n (bcV n k) n,Ord n xs/\((bo xs).length:Int)=k:=by
 have F:∀xs,Beg n xs->xs.length=n->bcV n k xs=0\/bcV n k xs=1:=fun xs _ l=>by rw[lZ l];omega
 by_cases h0:0<bcV n k []
 ·refine⟨yJ (fQ n k) F h0,fun xs hx=>?_⟩
  obtain⟨l,b⟩:=c5 n xs hx
  have p:=qR h0 n xs hx
  rw[lZ l] at p
  split at p
  ·rename_i e;exact⟨⟨l,b.nd,b.lo,b.hi⟩,e.symm⟩
  ·omega
 ·have z:bcV n k []=0:=by have:=Ge (n:=n) (k:=k) (xs:=[]);omega
  obtain⟨m,rfl⟩:∃m,n=m+1:=⟨n - 1,by omega⟩
  have e:=qV (fQ (m+1) k) h0 m (by omega)
  simp_all
def Fi (w:Wf h) (h1:1<=n) (hn:n<=12) (k0:0<=k) (k1:k<=12) (c:bcV n k []<=300) (w2:Wf (h++[.lst ((fll n (bcV n k) n).map tpI++[.tup []])])):aM [.int n,.int k] h=.ok (.bl true) h:=by
 obtain⟨len,ho⟩:=mK h1 hn c
 have len3:=jR (fQ n k) c n (NK _)
 have lm:=xT (k:=k) (h:=h) h1 hn
 have rt:=xZ w h1 hn k0 k1 c
 have so:=yO (B:=bcV n k) hn
 have okv:=DP (B:=bcV n k) h1 hn (by omega)
 have er:aq (h++[.lst ((fll n (bcV n k) n).map tpI)]) h.length=some ((fll n (bcV n k) n).map tpI):=bR
 have sv:=DI er okv
 rw[so] at sv
 have ne:=MW er
 obtain⟨z,lp⟩:=Li (d2:=some (.int (bcV n k []))) (y:=none) h1 hn er ho
 obtain⟨s,r1,r2⟩:=CW (L:=fll n (bcV n k) n) (fun b hb x hx=>by
  have o:=(ho b hb).1
  have a:=o.lo x hx
  have a2:=o.hi x hx
  exact eF (by omega) (by omega)) (fun b hb=>by have:=(ho b hb).1.len;omega) len3
 have rp:=r1 _ _ er
 have tl:=HU w2 h1 hn k0 k1 c
 have rp2:=r2 (h++[.lst ((fll n (bcV n k) n).map tpI++[.tup []])])
 have ex:bg h (.bl true) (h++[.lst ((fll n (bcV n k) n).map tpI++[.tup []])])=.ok (.bl true) h:=f9 w rfl
 have ll:(((fll n (bcV n k) n).map tpI).length:Int)=bcV n k []:=by simp_all
 have l6:((fll n (bcV n k) n).map tpI).length<=300:=by omega
 rw[<- Bo] at lm
 have c':¬ 300<bcV n k []:=by omega
 have ii:kK "list" (.ref h.length) (h++[.lst ((fll n (bcV n k) n).map tpI)])=.ok (.bl true) (h++[.lst ((fll n (bcV n k) n).map tpI)]):=by
  generalize (fll n (bcV n k) n).map tpI=W at *
  have:(h++[O.lst W])[h.length]?=some (.lst W):=by simp
  unfold kK tyD
  dsimp only
  rw[this]
  rfl
 have dl:=Hj er
 have ap:=nD (d:=.tup []) er
 rw[if_pos (by omega),ip] at ap
 rw[K0]
 generalize bcV n k []=V at *
 generalize (fll n (bcV n k) n).map tpI=W at *
 have z6:W.length<1000000:=by omega
 have z7:W.length<=1000000:=by omega
 generalize (cx (bp (af 3)) (gN 4) GB)=CF at *
 simp[bj,lm,rt,c',ii,dl,ap,sv,ne,lp,rp,tl,rp2,ex,ll,er,z6,z7]
def Lh (N):∀xs:List Int,a8 N (xs.map D.int)=true
 | []=>rfl
 | x::r=>by rw[NR];show(true&&a8 N (r.map D.int))=true;simp
theorem wI (N):∀L:List (List Int),a8 N (L.map tpI++[.tup []])=true
 | []=>rfl
 | x::r=>by
  show(a8 N (x.map D.int)&&a8 N (r.map tpI++[.tup []]))=true
  rw[Lh,wI N r];rfl
def LD {n:Nat} (w:Wf h) (h1:1<=n) (hn:n<=12) (k0:0<=k) (k1:k<=12):aM [.int n,.int k] h=.ok (.bl true) h:=by
 by_cases c:300<bcV n k []
 ·exact B_ w h1 hn k0 k1 c
 ·exact Fi w h1 hn k0 k1 (by omega) (w.app (wI _ _))
noncomputable def SB:MS:=(aH (aW 4 (ah bw (aa (af 0) (aa (af 1) ak))))
  (aH (eV (aJ asB (av dNe (ah dU (aa (af 4) ak)) (ah dU (aa (cIf (aJ asB (av dLt (ah cU (aa (af 2) ak)) (cC (.int 301)))) (af 2) (ah cn (aa (cC (.str "great")) (aa (ah cU (aa (af 2) ak)) (aa (cC (.int 300)) ak))))) ak)))) (a9 (cC (.bl false))) cF)
  (eV (aJ kD (cUn (kK "list") (af 4))) (eB (dZ di (af 4) (aa (ah cn ak) ak))) cF)))
def Jm:ba=fun ds h=>((bF 5 (aH (aW 2 (c7 aI (bp (ah dF (aa (af 0) ak))) [1] (aJ asB (av dEq (ah cU (aa (ah bh (aa (af 0) ak)) ak)) (af 1))) (af 0)))
  (aH (cx (dY fw (aa (cC (.int 2)) ak)) (gN 3) SB) (a9 (cC (.bl true)))))) ds h).bind (bg h):=rfl
def ym (h1:1<=n) (hn:n<=12):((fll n (bcV n k) n).length:Int)=bcV n k []:=by
 by_cases c:bcV n k []<=300
 ·exact(mK h1 hn c).1
 ·exact yJ (fQ n k) (fun xs _ l=>by rw[lZ l];omega) (by omega)
def Kd {n:Nat}{k:Int}{H:Hh}{y3 y4:Option D} (w:Wf H) (h1:1<=n) (hn:n<=6) (k0:0<=k) (k1:k<=12) (sV:sml (bcV n k [])=true) (l8:((fll n (bcV n k) n).map tpI).length<=1000000):∃T z4,Wf (H++T)/\SB [some (.int n),some (.int k),some (.frl ((fll n (bcV n k) n).map tpI)),y3,y4] H=.ok (.nx [some (.int n),some (.int k),some (.frl ((fll n (bcV n k) n).map tpI)),y3,z4]) (H++T):=by
 have len:=ym (k:=k) h1 (by omega:n<=12)
 have ll:(((fll n (bcV n k) n).map tpI).length:Int)=bcV n k []:=by simp_all
 by_cases c:300<bcV n k []
 ·refine⟨[],some (TGr (bcV n k [])),by simp_all,?_⟩
  have rt:=tm w h1 (by omega) k0 k1 c
  obtain⟨s,rp⟩:=Gq sV
  have rp':=rp H
  have c':¬ bcV n k []<301:=by omega
  rw[O2]
  generalize bcV n k []=V at *
  generalize (fll n (bcV n k) n).map tpI=W at *
  have il:kK "list" (TGr V) H=.ok (.bl false) H:=rfl
  simp[SB,rt,rp',ll,l8,c',il]
 ·obtain⟨_,ho⟩:=mK h1 (by omega) (by omega:bcV n k []<=300)
  have len3:=jR (fQ n k) (by omega:bcV n k []<=300) n (NK _)
  have rt:=xZ w h1 (by omega) k0 k1 (by omega:bcV n k []<=300)
  have er:aq (H++[.lst ((fll n (bcV n k) n).map tpI)]) H.length=some ((fll n (bcV n k) n).map tpI):=bR
  obtain⟨s,r1,r2⟩:=CW (L:=fll n (bcV n k) n) (fun b hb x hx=>by
   have o:=(ho b hb).1
   have a:=o.lo x hx
   have a2:=o.hi x hx
   exact eF (by omega) (by omega)) (fun b hb=>by have:=(ho b hb).1.len;omega) len3
  have rp:=r1 _ _ er
  have rp2:=r2 (H++[.lst ((fll n (bcV n k) n).map tpI)])
  have w2:Wf (H++[.lst ((fll n (bcV n k) n).map tpI++[.tup []])]):=w.app (wI _ _)
  refine⟨[.lst ((fll n (bcV n k) n).map tpI++[.tup []])],some (.ref H.length),w2,?_⟩
  have ii:kK "list" (.ref H.length) (H++[.lst ((fll n (bcV n k) n).map tpI)])=.ok (.bl true) (H++[.lst ((fll n (bcV n k) n).map tpI)]):=by
   generalize (fll n (bcV n k) n).map tpI=W at *
   have:(H++[O.lst W])[H.length]?=some (.lst W):=by simp
   unfold kK tyD
   dsimp only
   rw[this]
   rfl
  have ap:=nD (d:=.tup []) er
  have l6:((fll n (bcV n k) n).map tpI).length<=300:=by omega
  rw[if_pos (by omega),ip] at ap
  have c':bcV n k []<301:=by omega
  generalize bcV n k []=V at *
  generalize (fll n (bcV n k) n).map tpI=W at *
  have z6:W.length<1000000:=by omega
  simp[SB,rt,rp,rp2,ll,l8,c',ii,ap,er,z6]
def Em {n:Nat} (w:Wf h) (h1:1<=n) (hn:n<=6) (k0:0<=k) (k1:k<=12):ba [.int n,.int k] h=.ok (.bl true) h:=by
 have xa:=JH h1 (by omega:n<=7) h
 have ab:=(my (fQ n k) n (NK _)).1
 have la:((allI n n).map tpI).length<=1000000/\(allI n n).length<=46656:=by
  rw[NY]
  have:=rS n n
  have:=Nat.pow_le_pow_left hn n
  have:=Nat.pow_le_pow_right (show 0<6 by decide) hn
  omega
 have fe:(allI n n).filter (fun xs=>decide (((bo xs).length:Int)=k))=fll n (bcV n k) n:=by
  rw[<- Hb (fQ n k) h1]
  refine RB fun xs hx=>?_
  rw[lZ (ab xs hx).1]
  grind
 have qa:cN (aJ asB (av dEq (ah cU (aa (ah bh (aa (af 0) ak)) ak)) (af 1))) (af 0) (fun x=>[some x,some (.int k)]) ((allI n n).map tpI) h=.ok ((fll n (bcV n k) n).map tpI) h:=by
  rw[<- fe]
  exact comp_map tpI (fun xs=>decide (((bo xs).length:Int)=k)) tpI (allI n n) fun xs hx=>⟨by
   have l:=(ab xs hx).1
   have fa:=pE (xs:=xs) (h:=h) (by omega)
   have lf:(((bo xs).map D.int).length:Int)=((bo xs).length:Int):=by simp
   simp only[tpI]
   generalize (bo xs).map D.int=F at *
   generalize ((bo xs).length:Int)=FL at *
   generalize xs.map D.int=X at *
   simp[fa,lf]
   rfl,fun _=>by simp⟩
 have lf:(fll n (bcV n k) n).length<=46656:=by
  grind
 have len:=ym (k:=k) h1 (by omega:n<=12)
 have sV:sml (bcV n k [])=true:=eF (by omega) (by omega)
 have l8:((fll n (bcV n k) n).map tpI).length<=1000000:=by grind
 obtain⟨s,lp,si⟩:=qB (σ:=Hh × Option D × Option D) (tg:=gN 3) (body:=SB) (fun(i:Nat)=>D.int i) 2 (fun s=>[some (.int n),some (.int k),some (.frl ((fll n (bcV n k) n).map tpI)),s.2.1,s.2.2]) (fun s=>h++s.1) (fun _ s=>Wf (h++s.1)) (fun i s _ hs=>by
  obtain⟨T,y3,y4⟩:=s
  dsimp only at hs ⊢
  obtain⟨T2,z4,w2,e⟩:=Kd (y3:=some (.int i)) (y4:=y4) hs h1 hn k0 k1 sV l8
  simp_all) 2 0 ([],none,none) rfl (by simp_all)
 obtain⟨T,y3,y4⟩:=s
 dsimp only at lp si
 rw[<- Qa,<- dH,O2] at lp
 have ex:bg h (.bl true) (h++T)=.ok (.bl true) h:=f9 w rfl
 have la1:=la.1
 rw[Jm]
 generalize (fll n (bcV n k) n).map tpI=W at *
 generalize (allI n n).map tpI=W1 at *
 generalize SB=BD at *
 simp[bj,xa,qa,la1,l8,aI,lp,ex]
noncomputable def B0:MS:=(eV (iF (aJ kD (ah aM (aa (af 3) (aa (af 4) ak))))) (a9 (cC (.bl false))) cF)
noncomputable def B1:MS:=(aH (aW 2 (ah b8 (aa (af 1) ak))) (aH (eV (iF (aJ kD (ah ba (aa (av (bY aI) (cC (.int 1)) (ah aF (aa (af 2) (aa (cC (.int 6)) ak)))) (aa (ah aF (aa (af 2) (aa (av dIx (ah (dw aI) (aa (cC (.int 6)) (aa (cC (.int 13)) ak))) (ah aF (aa (af 2) (aa (cC (.int 2)) ak)))) ak))) ak))))) (a9 (cC (.bl false))) cF) (aH (aW 3 (av (bY aI) (cC (.int 7)) (ah aF (aa (af 2) (aa (cC (.int 6)) ak))))) (cx (bp (ah cn (aa (cC (.int 0)) (aa (av kh (af 3) (cC (.int 1))) (aa (ah aF (aa (af 2) (aa (cC (.int 13)) ak))) (aa (av dIx (ah (dw aI) (aa (cC (.int 1)) (aa (av kh (af 3) (cC (.int 2))) ak))) (ah aF (aa (af 2) (aa (cC (.int 2)) ak)))) ak)))))) (gN 4) B0))))
def C5:nY=fun ds h=>((bF 5 (aH (cx (bp (av (bY aI) (ah (dw aI) (aa (ah bC (aa (af 0) (aa (cC (.int 0)) ak))) ak)) (rL aI (af 0) (pU (cC (.int 1))) (pU (cC (.int 4)))))) (gN 1) B1) (a9 (cC (.bl true))))) ds h).bind (bg h):=rfl
def Bv:Prop:=∀(ns:List Int) c y2 y3 y4 h , Wf h->Ok (B1 [some (.scr (ns.map D.int)),some (.int c),y2,y3,y4] h) fun fl h2=>∃z2 z3 z4,fl=.nx [some (.scr (ns.map D.int)),some (.int c),z2,z3,z4]/\Wf h2
def IV (step:Bv) (ns:List Int) (hl:ns.length<=63):∃h,nY [.scr (ns.map D.int)] []=.ok (.bl true) h:=by
 have key:Ok (cI (gN 1) B1 (((ns.headD 0)::tJ ns (some 1) (some 4)).map D.int) [some (.scr (ns.map D.int)),none,none,none,none] []) fun fl h2=>(∃e,fl=.nx e)/\Wf h2:=by
  refine q_ D.int (fun e h=>(∃y1 y2 y3 y4,e=[some (.scr (ns.map D.int)),y1,y2,y3,y4])/\Wf h) _ _ _ ⟨⟨_,_,_,_,rfl⟩,Wf.nil⟩ (fun x e h _ ⟨⟨y1,y2,y3,y4,e1⟩,w⟩=>?_) (fun e h ⟨_,w⟩=>⟨⟨_,rfl⟩,w⟩)
  subst e1
  simp only[GZ,cP,Uw]
  refine(step ns x y2 y3 y4 h w).mono fun fl h2 ⟨z2,z3,z4,e2,w2⟩=>?_
  simp_all
 obtain⟨fl,h2,e,⟨e',rfl⟩,w⟩:=key
 have cl:=Dm ns (some 1) (some 4)
 have c1:1+(tJ ns (some 1) (some 4)).length<=1000000:=by omega
 have ex:bg [] (.bl true) h2=.ok (.bl true) []:=by
  rfl
 refine⟨[],?_⟩
 have e2:cI (gN 1) B1 (D.int (ns.headD 0)::(tJ ns (some 1) (some 4)).map D.int) [some (.scr (ns.map D.int)),none,none,none,none] []=.ok (.nx e') h2:=e
 rw[C5]
 simp[bj,zS,c1,e2,ex,-List.headD_eq_head?_getD]
def jT {h:Hh} (hm:0<m/\m<=10 ^ 20):∃(v:Nat) (p':Pen),(v:Int)<m/\aF [.ref h.length,.int m] (h++[.lst (lW p)])=.ok (.int v) (h++[.lst (lW p')]):=by
 obtain⟨v,ev,bv⟩:=JY p m hm.1
 have d:=Ee (p:=p) (h:=h) (t:=[]) (m:=m) hm
 grind
def ix2 {w:Nat}{a b:Int} (hw:w<2):∃v,(v=a\/v=b)/\∀H:Hh,ixK [.int a,.int b] (w:Int) H=.ok (.int v) H:=by
 match w,hw with
 | 0,_=>simp
 | 1,_=>simp
def JV {n:Nat}{k:Int}{h:Hh}{d0 d1 d2:Option D} (w:Wf h) (h1:1<=n) (hn:n<=12) (k0:0<=k/\k<=12):B0 [d0,d1,d2,some (.int n),some (.int k)] h=.ok (.nx [d0,d1,d2,some (.int n),some (.int k)]) h:=by
 have g:=LD w h1 hn k0.1 k0.2
 simp[B0,g]
def EM:Bv:=by
 intro ns c y2 y3 y4 h w
 obtain⟨b,p1,hb,d6⟩:=jT (h:=h) (p:=BN c) (m:=6) (by decide)
 obtain⟨n,hn⟩:∃n:Nat,1+(b:Int)=n:=⟨1+b,by omega⟩
 obtain⟨u,p2,hu,du⟩:=jT (h:=h) (p:=p1) (m:=2) (by decide)
 obtain⟨q,hq,iq⟩:=ix2 (w:=u) (a:=6) (b:=13) (by omega)
 obtain⟨k,p3,hk,dk⟩:=jT (h:=h) (p:=p2) (m:=q) (by omega)
 have sm:=Em (k:=(k:Int)) (C9 w p3) (by omega:1<=n) (by omega) (by omega) (by omega)
 obtain⟨b2,p4,hb2,d62⟩:=jT (h:=h) (p:=p3) (m:=6) (by decide)
 obtain⟨N,hN⟩:∃n:Nat,7+(b2:Int)=n:=⟨7+b2,by omega⟩
 obtain⟨k3,p5,hk3,dk3⟩:=jT (h:=h) (p:=p4) (m:=13) (by decide)
 obtain⟨u2,p6,hu2,du2⟩:=jT (h:=h) (p:=p5) (m:=2) (by decide)
 obtain⟨k4,hk4,ik4⟩:=ix2 (w:=u2) (a:=1) (b:=(N:Int) - 2) (by omega)
 have wf:=C9 w p6
 have q1:=fun(k:Int) (k0:0<=k/\k<=12)=>JV (n:=N) (k:=k) (d0:=some (.scr (ns.map D.int))) (d1:=some (.int c)) (d2:=some (.ref h.length)) wf (by omega) (by omega) k0
 have f4:cI (gN 4) B0 [.int 0,.int ((N:Int) - 1),.int (k3:Int),.int k4] [some (.scr (ns.map D.int)),some (.int c),some (.ref h.length),some (.int N),y4] (h++[.lst (lW p6)])=.ok (.nx [some (.scr (ns.map D.int)),some (.int c),some (.ref h.length),some (.int N),some (.int k4)]) (h++[.lst (lW p6)]):=by
  simp only[fK,xo,GZ,cP,Uw,q1 0 (by omega),q1 ((N:Int) - 1) (by omega),q1 k3 (by omega),q1 k4 (by omega),Ki]
 refine⟨_,_,?_,some (.ref h.length),some (.int N),some (.int k4),rfl,wf⟩
 simp[B1,d6,hn,du,iq,dk,sm,d62,hN,dk3,du2,ik4,f4]
def HW (ns:List Int) (hl:ns.length<=63):∃h,nY [.scr (ns.map D.int)] []=.ok (.bl true) h:=IV EM ns hl
end FC
open PySem PySem.W PyProof.Rows
local macro_rules | `(tactic| o_head $H)=>`(tactic| (refine holds_open (q:=FC.Q) (loose:=[]) (Xt:=(fun s=>xlAt FC.Q [] s&&recOk (RowW.records (OpenRow.toRowW (OpenLaw.row PySem.Challenge.rw_fallcounts_k21_orders_listed))) s)) (XP:=XL FC.Q []) (Yf:=Hook.obs $H) (Ya:=Hook.val $H) (YP:=Hook.says $H) (N:=5326) (L2.FE.zP (by decide) (by kernel_rfl) (fun _=>by kernel_rfl) FC.JC FC.KN (fun w os=>by kernel_rfl)) (Hook.of $H) (Hook.keeps $H) (fun s e=>xl_of s (Bool.and_eq_true_iff.mp e).1) XL.keeps (by rfl) (by rfl) (by rfl) (fun s e=>recFacts_of (Bool.and_eq_true_iff.mp e).2) (by rfl) (by first | assumption | decide +kernel) (by decide +kernel) ⟨rfl,rfl,rfl,rfl,rfl,by decide +kernel⟩ ?hw ?hc))
set_option maxRecDepth 100000 in
set_option maxHeartbeats 0 in
theorem PySem.Challenge.cw_fallcounts_k21_orders_listed_holds : PySem.Challenge.rw_fallcounts_k21_orders_listed.Holds := by
 w_on;o_law;k_head;w_witness2
 k_fill
 refine FC.walk (l:=PySem.Challenge.rw_fallcounts_k21_orders_listed) rfl rfl (fun w h Y=>by first | exact PySem.W.kIn_of Y | exact PySem.W.km_in_of Y) (fun w h Y=>PySem.W.km_tabs_of Y) (fun _=>by kernel_rfl) FC.HW ?F
 case F=>
  intro w mg fa h KX G hmg
  refine FC.all_mk KX G hmg (by kernel_rfl) ?T
  case T=>
   constructor
   all_goals first | (refine' L2.FE.IJ ?a ?l ?c ?k;(case a=>k_is);(case l=>k_is);(case c=>k_is);(case k=>k_is)) | (refine' L2.Jb ?e0 ?e1 ?e2 ?e3 ?e4 ?e5 ?e6 ?e7 ?c;(case e0=>k_is);(case e1=>k_is);(case e2=>k_is);(case e3=>k_is);(case e4=>k_is);(case e5=>k_is);(case e6=>k_is);(case e7=>k_is);(case c=>kernel_rfl)) | (refine' L2.DW ?a ?b ?l ?c ?k ?o FC.qw FC.oz FC.sy FC.rF (by decide);(case a=>k_is);(case b=>k_is);(case l=>k_is);(case c=>k_is);(case k=>k_is);(case o=>kernel_rfl)) | (refine' L2.FE.J0 ?a ?l ?c ?k ?h1 ?h2 ?h3;(case a=>k_is);(case l=>k_is);(case c=>k_is);(case k=>k_is);(case h1=>kernel_rfl);(case h2=>kernel_rfl);(case h3=>kernel_rfl)) | exact⟨_,rfl⟩ | k_is
