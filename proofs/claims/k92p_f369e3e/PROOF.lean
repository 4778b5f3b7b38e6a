import PyProof.Rows.All
import Wide.All
import OpenK.AllK
import Wide.FinOn
import Lean
import KE.KNestM
import PyProof.EqAt
import PyProof.EqKinds
import PyProof.TupleCall
import PyProof.EnumMake
import PyProof.Draws
import KE.KDictList
import KE.KTryMore
import KE.KEqDict
import PyProof.ExcInit
import PyProof.InstStoreFacts
import KE.KSortTup
import PyProof.Rows.StrWeight2
import PyProof.StrCalls
import PyProof.Rows.StrSplitJoin
import KE.KIntText
import PyProof.StrBlockH
import PyProof.Rows.CallKwBuiltin
import PyProof.StrWalks
import PyProof.StrBlock2
import KE.IntTextLaws
import PySem.Challenge.RW_fallcounts_k92_texts_that_write_none
set_option Elab.async false
set_option linter.all false
set_option maxRecDepth 100000
set_option maxHeartbeats 8000000
namespace L2.FE
open PySem PySem.W PySem.Calls
noncomputable def xx:List Obj->BT->Nat->Option BT
 | [],t,_=>some t
 | o::r,t,n=>match ((t.ins n o).get n).isSome with
  | true=>xx r (t.ins n o) (n+1)
  | false=>none
theorem pL {life:Life}:∀{r:List Obj} {t T:BT} {n:Nat} {a:Array Obj},xx r t n=some T->absHeap t n life=⟨a,life⟩->absHeap T (n+r.length) life=⟨a++r.toArray,life⟩
 | [],t,T,n,a,h,e=>by cases h;simpa using e
 | o::r,t,T,n,a,h,e=>by
  unfold xx at h
  cases g:((t.ins n o).get n).isSome with
  | false=>rw[g] at h;cases h
  | true=>
   rw[g] at h
   have x:absHeap (t.ins n o) (n+1) life=⟨a.push o,life⟩:=by rw[absHeap_ins g,e];rfl
   have:=pL h x
   rw[List.length_cons,show n+(r.length+1)=n+1+r.length by omega,this]
   simp
noncomputable def sH (p:Program) (w:World) (n₀:Nat) (ann:Option Value):Nat->SharedT->Thread->Option SharedT
 | 0,_,_=>none
 | n+1,s,t=>match through t with
  | true=>some s
  | false=>match PySem.W.Fast.tw6613529449190102663 n₀ ann t with
   | false=>none
   | true=>match PySem.W.Fast.tw10156331382660048174 (PySem.W.Fast.tw11892475500146522536 PySem.W.Fast.tw14364793385576792824) p w s t with
    | some (s',t')=>sH p w n₀ ann n s' t'
    | none=>none
theorem oV {p:Program} {w:World} {n₀:Nat} {ann:Option Value}:∀{n:Nat} {s r:SharedT} {t:Thread},sH p w n₀ ann n s t=some r->topRun treeTable p w n₀ ann n s.abs t=some r.abs
 | 0,_,_,_,h=>by cases h
 | n+1,s,r,t,h=>by
  unfold sH at h
  unfold topRun
  cases ht:through t with
  | true=>rw[ht] at h;cases h;rfl
  | false=>
   rw[ht,<- PySem.W.Fast.te6613529449190102663] at h
   cases hk:stepOk n₀ ann t with
   | false=>simp only[hk] at h;cases h
   | true=>
    simp only[hk] at h
    rw[<- PySem.W.Fast.te10156331382660048174,<- PySem.W.Fast.te11892475500146522536,<- PySem.W.Fast.te14364793385576792824] at h
    cases hs:stepT (denote treeTable) p w s t with
    | none=>rw[hs] at h;cases h
    | some x=>obtain⟨s₂,t₂⟩:=x;rw[hs] at h;rw[stepT_spec hs];exact oV h
noncomputable def mn (p:Program) (w:World) (N:Nat) (os:OsState):Option SharedT:=
 match (boot_heap w.params).isNs mainGlobals with
 | true=>(xx (boot_heap w.params).objs.toList .nil 0).bind fun T=>sH p w (boot_heap w.params).objs.size ((boot_heap w.params).nsMap mainGlobals (Str.ofString "__annotations__")) N ⟨T,(boot_heap w.params).objs.size,(boot_heap w.params).life,#[],boot_drawn,boot_toks,os⟩ (topStub p)
 | false=>none
noncomputable def wx (p:Program) (w:World) (s₁:Shared):Bool:=staticsOk (PySem.W.Fast.tw5923862056798008813 p.main.body) (boot_heap w.params) s₁.heap&&namesBound p s₁.heap&&gensDone s₁&&laidKept (boot_heap w.params) s₁.heap
theorem sZ {p q:Program} {loose:List Str} {Xt:Shared->Bool} {α:Type} {Yf:Shared->α} {Ya:World->α} {N:Nat} (hN:Nat.ble 600 N=true) (e:opening p=plainProg p.main.scope.names) (f:∀s,fenceModules? p s=some s)
  (h1:∀(w:World) (os:OsState),(mn p w N os).map (fun s=>wx p w s.abs)=some true)
  (h2:∀(w:World) (os:OsState),(mn p w N os).map (fun s=>PySem.W.Fast.tw4187177175401517315 q loose (PySem.W.Fast.tw5923862056798008813 p.main.body) Xt true s.abs)=some (openGood q loose))
  (h3:∀(w:World) (os:OsState),(mn p w N os).map (fun s=>Yf s.abs)=some (Ya w)):LeftO p q loose Xt Yf Ya N:=fun w=>by
 obtain⟨s,hs,e'⟩:=Option.map_eq_some_iff.mp (boot_open e hN f w)
 obtain⟨H,gs,d,k,os⟩:=s
 obtain⟨rfl,rfl,rfl,rfl⟩:H=boot_heap w.params/\gs=_/\d=boot_drawn/\k=boot_toks:=by simpa using e'
 obtain⟨r,hr,l1⟩:=Option.map_eq_some_iff.mp (h1 w os)
 obtain⟨r2,hr2,l2⟩:=Option.map_eq_some_iff.mp (h2 w os)
 obtain⟨r3,hr3,l3⟩:=Option.map_eq_some_iff.mp (h3 w os)
 obtain rfl:r=r2:=Option.some.inj (hr.symm.trans hr2)
 obtain rfl:r=r3:=Option.some.inj (hr.symm.trans hr3)
 unfold wx at l1
 rw[<- PySem.W.Fast.te5923862056798008813] at l1
 rw[<- PySem.W.Fast.te4187177175401517315,<- PySem.W.Fast.te5923862056798008813] at l2
 unfold mn at hr
 cases hn:(boot_heap w.params).isNs mainGlobals with
 | false=>rw[hn] at hr;cases hr
 | true=>
  rw[hn] at hr
  obtain⟨T,hT,hr⟩:=Option.bind_eq_some_iff.mp hr
  have z:=pL (life:=(boot_heap w.params).life) (n:=0) (a:=#[]) hT rfl
  have z':absHeap T (boot_heap w.params).objs.size (boot_heap w.params).life=boot_heap w.params:=by
   rw[Nat.zero_add,Array.length_toList] at z
   rw[z]
   simp
  have hr:=oV hr
  have st:(SharedT.mk T (boot_heap w.params).objs.size (boot_heap w.params).life #[] boot_drawn boot_toks os).abs=⟨boot_heap w.params,#[],boot_drawn,boot_toks,os⟩:=by
   show Shared.mk _ _ _ _ _=_
   rw[z']
  rw[st] at hr
  unfold openEnds
  rw[hs]
  show Option.map _ (topFrom treeTable p w N _)=_
  have t:topFrom treeTable p w N ⟨boot_heap w.params,#[],boot_drawn,boot_toks,os⟩=some r.abs:=by
   unfold topFrom
   dsimp only
   rw[hn]
   rw[hr]
   show(match staticsOk (importedModules p.main.body) (boot_heap w.params) r.abs.heap&&namesBound p r.abs.heap&&gensDone r.abs&&laidKept (boot_heap w.params) r.abs.heap with | true=>_ | false=>_)=_
   rw[l1]
  rw[t]
  show some (openSeen q loose (importedModules p.main.body) Xt true r.abs,Yf r.abs)=_
  rw[l2,l3]
noncomputable def viewOf (p:Program) (keep:List Nat):Program:={ p with main:={ p.main with body:=keep.filterMap fun i=>p.main.body[i]? } }
end L2.FE
section
open PySem PySem.W PyProof.Rows
noncomputable def FC.Q:Program:=L2.FE.viewOf PySem.Challenge.pw_fallcounts_k92_texts_that_write_none [1,2,3,4,5,6,7,8,10,11,13,14,16,17,18,19,21,22,23,24,25,26,27,28,29,30,31,32]
theorem FC.DE:∀(w:World) (os:OsState),(L2.FE.mn PySem.Challenge.pw_fallcounts_k92_texts_that_write_none w 4726 os).map (fun s=>L2.FE.wx PySem.Challenge.pw_fallcounts_k92_texts_that_write_none w s.abs)=some true:=fun w os=>by kernel_rfl
theorem FC.C1:∀(w:World) (os:OsState),(L2.FE.mn PySem.Challenge.pw_fallcounts_k92_texts_that_write_none w 4726 os).map (fun s=>PySem.W.Fast.tw4187177175401517315 FC.Q [] (PySem.W.Fast.tw5923862056798008813 PySem.Challenge.pw_fallcounts_k92_texts_that_write_none.main.body) (fun s=>xlAt FC.Q [] s&&recOk (RowW.records (OpenRow.toRowW (OpenLaw.row PySem.Challenge.rw_fallcounts_k92_texts_that_write_none))) s) true s.abs)=some (openGood FC.Q []):=fun w os=>by kernel_rfl
end
namespace L2
open PySem PySem.Spec PyProof.Rows
noncomputable abbrev Key:=Sum Int Str
noncomputable def zm:Key->Value->Bool
 | .inl k,v=>Value.isInt k v
 | .inr x,v=>Value.isStrOf x v
noncomputable def EG (w:World):Key->Int
 | .inl k=>hashInt k
 | .inr x=>hashStr w x
theorem bt:∀{k:Key} {v:Value},zm k v=true->(∃i t,k=Sum.inl i/\v=Value.int i t)\/(∃x t,k=Sum.inr x/\v=Value.str x t)
 | .inl i,v,h=>by
  obtain⟨t,e⟩:=Value.isInt_shape (k:=i) (v:=v) h
  exact .inl ⟨i,t,rfl,e⟩
 | .inr x,v,h=>by
  obtain⟨t,e⟩:=Value.isStrOf_shape (x:=x) (v:=v) h
  exact .inr ⟨x,t,rfl,e⟩
theorem Bu (a b:Int):decide ((Sum.inl a:Key)=Sum.inl b)=(a == b):=by
 by_cases e:a=b
 ·subst e;simp
 ·have h:¬ (Sum.inl a:Key)=Sum.inl b:=fun q=>e (Sum.inl.inj q)
  rw[decide_eq_false h]
  exact(beq_eq_false_iff_ne.mpr e).symm
theorem BK (a b:Str):decide ((Sum.inr a:Key)=Sum.inr b)=decide (a=b):=by
 by_cases e:a=b
 ·subst e;simp
 ·have h:¬ (Sum.inr a:Key)=Sum.inr b:=fun q=>e (Sum.inr.inj q)
  rw[decide_eq_false h,decide_eq_false e]
theorem zZ (a:Int) (b:Str):decide ((Sum.inl a:Key)=Sum.inr b)=false:=decide_eq_false (fun q=>nomatch q)
theorem BC (a:Str) (b:Int):decide ((Sum.inr a:Key)=Sum.inl b)=false:=decide_eq_false (fun q=>nomatch q)
noncomputable def mI (prog:Program) (w:World):PySem.KeyKind prog w Key where
 is:=zm
 hash:=EG w
 inj:=fun v a b ha hb=>by
  rcases bt ha with⟨i,t,rfl,rfl⟩ | ⟨x,t,rfl,rfl⟩
  ·rcases bt hb with⟨j,u,rfl,e⟩ | ⟨y,u,rfl,e⟩
   ·injection e with e1 _;rw[e1]
   ·exact nomatch e
  ·rcases bt hb with⟨j,u,rfl,e⟩ | ⟨y,u,rfl,e⟩
   ·exact nomatch e
   ·injection e with e1 _;rw[e1]
 byValue:=fun k v h=>by
   rcases bt h with⟨i,t,rfl,rfl⟩ | ⟨x,t,rfl,rfl⟩<;>rfl
 pyHash:=fun hv h=>by
  rcases bt hv with⟨i,t,rfl,rfl⟩ | ⟨x,t,rfl,rfl⟩
  ·exact wpAny_pyHash_int h
  ·exact wpAny_pyHash_str h
 eqBool:=fun hu hv h=>by
  rcases bt hu with⟨i,t,rfl,rfl⟩ | ⟨x,t,rfl,rfl⟩
  ·rcases bt hv with⟨j,u,rfl,rfl⟩ | ⟨y,u,rfl,rfl⟩
   ·rw[Bu] at h;exact wpAny_eqBool_int h
   ·rw[zZ] at h;exact SeqAt.EqAt.int_str i t y u _ _ _ _ h
  ·rcases bt hv with⟨j,u,rfl,rfl⟩ | ⟨y,u,rfl,rfl⟩
   ·rw[BC] at h;exact SeqAt.EqAt.str_int x t j u _ _ _ _ h
   ·rw[BK] at h;exact wpAny_eqBool_str h
 «strs»:=fun k x t v h=>by
  rcases bt h with⟨i,u,rfl,e⟩ | ⟨y,u,rfl,e⟩
  ·exact nomatch e
  ·injection e with e1 _
   subst e1
   cases v<;>rfl
inductive V where
 | non | bl (b:Bool) | int (i:Int) | str (x:Str) | byt (b:Array UInt8) | flt (b:UInt64) | ref (a:Addr) | ty (n:String)
 deriving DecidableEq
noncomputable def RelV:V->Value->Prop
 | .non,u=>u=Value.none
 | .bl b,u=>u=Value.bool b
 | .int i,u=>∃t,u=Value.int i t
 | .str x,u=>∃t,u=Value.str x t
 | .byt b,u=>∃t,u=Value.bytes b t
 | .flt b,u=>∃t,u=Value.float b t
 | .ref a,u=>u=Value.ref a
 | .ty n,u=>u=Value.type n
noncomputable abbrev Vals:List V->List Value->Prop:=Paired RelV
theorem Vals.length {xs:List V} {us:List Value} (r:Vals xs us):xs.length=us.length:=Paired.length r
theorem Vals.get:∀{xs:List V} {us:List Value} {i:Nat} {x:V},Vals xs us->xs[i]?=some x->∃u,us[i]?=some u/\RelV x u
 | _,_,_,_,.nil,e=>by simp at e
 | _,_,0,_,.cons r _,e=>by simp at e;subst e;exact⟨_,rfl,r⟩
 | _,_,i+1,x,.cons _ t,e=>by
  obtain⟨u,h1,h2⟩:=Vals.get (i:=i) (x:=x) t (by simpa using e)
  exact⟨u,by simpa using h1,h2⟩
theorem Vals.set {x:V} {u:Value} (r:RelV x u):∀{xs:List V} {us:List Value} (i:Nat),Vals xs us->Vals (xs.set i x) (us.set i u)
 | _,_,_,.nil=>.nil
 | _,_,0,.cons _ t=>.cons r t
 | _,_,i+1,.cons q t=>.cons q (Vals.set r i t)
theorem Vals.append:∀{xs ys:List V} {us ws:List Value},Vals xs us->Vals ys ws->Vals (xs++ys) (us++ws)
 | _,_,_,_,.nil,s=>s
 | _,_,_,_,.cons r t,s=>.cons r (Vals.append t s)
theorem Vals.take:∀{xs:List V} {us:List Value} (n:Nat),Vals xs us->Vals (xs.take n) (us.take n)
 | _,_,0,_=>.nil
 | _,_,_+1,.nil=>.nil
 | _,_,n+1,.cons r t=>.cons r (Vals.take n t)
theorem Vals.drop:∀{xs:List V} {us:List Value} (n:Nat),Vals xs us->Vals (xs.drop n) (us.drop n)
 | _,_,0,r=>r
 | _,_,_+1,.nil=>.nil
 | _,_,n+1,.cons _ t=>Vals.drop n t
noncomputable def wz:Option V->Option Value->Prop
 | some v,some u=>RelV v u
 | none,none=>True
 | _,_=>False
noncomputable def KV {κ:Type}:List (κ × V)->List (κ × Value)->Prop:=Paired fun(p:κ × V) (q:κ × Value)=>p.1=q.1/\RelV p.2 q.2
noncomputable def kV:Key->V
 | .inl i=>.int i
 | .inr x=>.str x
inductive HO where
 | lst (xs:List V)
 | tup (xs:List V)
 | dK (kvs:List (Key × V)) | dT (kvs:List (List Key × V))
 | set (S:Int->Bool) (n:Nat)
 | ins (C dx:Addr) (fs:List (Str × V))
 | own (x:Addr)
 | xd (fs:List (Str × V))
 | met (f x:Addr)
 | rng (lo hi:Int)
 | frz (o:Obj) (u:HO)
 | tbl (ps:Array Value)
 | ext (φ:Heap->Prop)
noncomputable abbrev Hp:=Addr->Option HO
noncomputable def upd (H:Hp) (a:Addr) (o:HO):Hp:=fun b=>if b=a then some o else H b
theorem aJ {H:Hp} {a:Addr} {o:HO}:upd H a o a=some o:=by unfold upd;rw[if_pos rfl]
theorem ay {H:Hp} {a b:Addr} {o:HO} (h:b≠a):upd H a o b=H b:=by unfold upd;rw[if_neg h]
theorem yW {H:Hp} {a:Addr} {o u:HO}:upd (upd H a o) a u=upd H a u:=by
 funext b;unfold upd;split<;>rfl
theorem aI {H:Hp} {a b:Addr} {o:HO} (h:H a=some o) (h':H b=none):a≠b:=by
 intro e;subst e;rw[h] at h';cases h'
noncomputable def lq (h:Heap) (a:Addr) (its:Array Value):Prop:=∃o,h.get? a=some o/\(o.cls=.type "tuple" /\ ∃n,o.data=.seq its n)/\o.dict=none
theorem lq.tup {h:Heap} {a:Addr} {its:Array Value} (x:lq h a its):IsTup h a its:=let ⟨o,e,⟨c,n,d⟩,_⟩:=x;⟨o,e,c,n,d⟩
theorem lq.new (h:Heap) (its:Array Value):lq (h.push { cls:=.type "tuple", data:=.seq its }) h.objs.size its:=⟨_,Heap.get?_push_size _ rfl,⟨rfl,_,rfl⟩,rfl⟩
section
variable (P:Program) (w:World)
noncomputable def br (H:Hp) (h:Heap) (a:Addr):HO->Prop
 | .lst xs=>xs.length<=sizeLine/\∃(its:List Value) (n:Nat),Vals xs its/\h.get? a=some { cls:=.type "list", data:=.seq its.toArray n }
 | .tup xs=>xs.length<=sizeLine/\∃its:List Value,Vals xs its/\lq h a its.toArray
 | .dK kvs=>kvs.length<=sizeLine/\(a == sysModules)=false/\∃vs,KV kvs vs/\h.DictOf (mI P w) a vs
 | .dT kvs=>kvs.length<=sizeLine/\(a == sysModules)=false/\∃xs:List (List Key × Addr × Value),
   Paired (fun(p:List Key × V) (q:List Key × Addr × Value)=>p.1=q.1/\H q.2.1=some (.tup (p.1.map kV))/\RelV p.2 q.2.2) kvs xs ∧
   ∃o es ep,h.get? a=some o/\o.ExactDict/\o.data=.dict es ep/\es.toList=xs.map (entryOfKey (tupleKind (mI P w)))/\(xs.map (·.1)).Nodup
 | .set S n=>h.SetOf (intKind P w) a S n
 | .ins C dx fs=>H dx=some (.own a)/\fs.length<=1000/\dx≠a/\h.get? a=some (PySem.W.instObj C dx) ∧
   ∃mA,h.Ns1 dx mA/\(∀f,wz (fs.lookup f) (mA f))/\PySem.Within mA (fs.map (·.1))
 | .own _=>∃o,h.get? a=some o
 | .xd fs=>∃mA,h.Ns1 a mA/\∀f,wz (fs.lookup f) (mA f)
 | .rng lo hi=>∃t u v,h.get? a=some { cls:=.type "range", data:=.fields #[.int lo t,.int hi u,.int 1 v] }
 | .frz o u=>h.get? a=some o/\br H h a u
 | .tbl ps=>h.get? a=some { cls:=.none,data:=.fields ps }
 | .met f x=>h.get? a=some (PySem.W.methodObj (.ref f) (.ref x))
 | .ext φ=>φ h/\(∃o,h.get? a=some o)/\∀h1 h2:Heap,φ h1->(∀o,h1.get? a=some o->h2.get? a=some o)->φ h2
noncomputable def HOk (H:Hp) (h:Heap):Prop:=∀a o,H a=some o->br P w H h a o
end
section
variable {P:Program} {w:World} {H H':Hp} {h h':Heap} {a:Addr} {o:HO}
theorem br.lt (x:br P w H h a o):a<h.objs.size:=by
 cases o with
 | lst xs=>obtain⟨_,_,_,_,e⟩:=x;exact Heap.lt_size e
 | tup xs=>obtain⟨_,_,_,_,e,_⟩:=x;exact Heap.lt_size e
 | dK kvs=>obtain⟨_,_,_,_,o,_,_,e,_⟩:=x;exact Heap.lt_size e
 | dT kvs=>obtain⟨_,_,_,_,o,_,_,e,_⟩:=x;exact Heap.lt_size e
 | set S n=>obtain⟨o,_,_,_,e,_⟩:=x;exact Heap.lt_size e
 | ins C dx fs=>obtain⟨_,_,_,e,_⟩:=x;exact Heap.lt_size e
 | own y=>obtain⟨_,e⟩:=x;exact Heap.lt_size e
 | xd fs=>obtain⟨_,⟨_,_,_,e,_⟩,_⟩:=x;exact Heap.lt_size e
 | rng lo hi=>obtain⟨_,_,_,e⟩:=x;exact Heap.lt_size e
 | frz ob u=>obtain⟨e,_⟩:=x;exact Heap.lt_size e
 | tbl ps=>exact Heap.lt_size (show h.get? a=some _ from x)
 | met f y=>exact Heap.lt_size (show h.get? a=some _ from x)
 | ext φ=>obtain⟨_,⟨_,e⟩,_⟩:=x;exact Heap.lt_size e
theorem Paired.yu {α β:Type} {F G:α->β->Prop}:∀{l₁:List α} {l₂:List β},Paired F l₁ l₂->(∀a b,F a b->G a b)->Paired G l₁ l₂
 | _,_,.nil,_=>.nil
 | _,_,.cons r t,f=>.cons (f _ _ r) (Paired.yu t f)
theorem br.g_ (x:br P w H h a o) (k:∀b u,(b=a\/H b=some (.own a))->h.get? b=some u->h'.get? b=some u)
  (ho:∀b,H b=some (.own a)->H' b=some (.own a)) (ht:∀b xs,H b=some (.tup xs)->H' b=some (.tup xs)):br P w H' h' a o:=by
 induction o with
 | lst xs=>obtain⟨z,its,n,r,e⟩:=x;exact⟨z,its,n,r,k _ _ (.inl rfl) e⟩
 | tup xs=>obtain⟨z,its,r,ob,e,c⟩:=x;exact⟨z,its,r,ob,k _ _ (.inl rfl) e,c⟩
 | dK kvs=>obtain⟨z,y,vs,r,ob,es,ep,e,c⟩:=x;exact⟨z,y,vs,r,ob,es,ep,k _ _ (.inl rfl) e,c⟩
 | dT kvs=>
  obtain⟨z,y,xs,r,ob,es,ep,e,c⟩:=x
  exact⟨z,y,xs,Paired.yu r fun p q z=>⟨z.1,ht _ _ z.2.1,z.2.2⟩,ob,es,ep,k _ _ (.inl rfl) e,c⟩
 | set S n=>obtain⟨ob,es,ep,t,e,c⟩:=x;exact⟨ob,es,ep,t,k _ _ (.inl rfl) e,c⟩
 | ins C dx fs=>
  obtain⟨d,z,ne,e,mA,⟨od,es,ep,e2,c⟩,r⟩:=x
  exact⟨ho _ d,z,ne,k _ _ (.inl rfl) e,mA,⟨od,es,ep,k _ _ (.inr d) e2,c⟩,r⟩
 | own y=>obtain⟨ob,e⟩:=x;exact⟨ob,k _ _ (.inl rfl) e⟩
 | xd fs=>obtain⟨mA,⟨od,es,ep,e,c⟩,r⟩:=x;exact⟨mA,⟨od,es,ep,k _ _ (.inl rfl) e,c⟩,r⟩
 | rng lo hi=>obtain⟨t,u,v,e⟩:=x;exact⟨t,u,v,k _ _ (.inl rfl) e⟩
 | frz ob u ih=>obtain⟨e,q⟩:=x;exact⟨k _ _ (.inl rfl) e,ih q⟩
 | tbl ps=>
  have e:h.get? a=some { cls:=.none,data:=.fields ps }:=x
  show h'.get? a=some { cls:=.none,data:=.fields ps }
  exact k a _ (.inl rfl) e
 | met f y=>
  have e:h.get? a=some (PySem.W.methodObj (.ref f) (.ref y)):=x
  show h'.get? a=some (PySem.W.methodObj (.ref f) (.ref y))
  exact k a _ (.inl rfl) e
 | ext φ=>obtain⟨p,⟨o,e⟩,st⟩:=x;exact⟨st _ _ p fun o q=>k _ _ (.inl rfl) q,⟨o,k _ _ (.inl rfl) e⟩,st⟩
theorem HOk.lt (x:HOk P w H h) (e:H a=some o):a<h.objs.size:=(x a o e).lt
theorem HOk.fresh (x:HOk P w H h) (e:h.objs.size<=a):H a=none:=by
 cases q:H a with
 | none=>rfl
 | some u=>exact absurd (Nat.lt_of_lt_of_le (x.lt q) e) (Nat.lt_irrefl _)
theorem HOk.kept (x:HOk P w H h) (k:∀b u,h.get? b=some u->h'.get? b=some u):HOk P w H h':=fun a o e=>
 (x a o e).g_ (fun b u _ q=>k b u q) (fun _ q=>q) fun _ _ q=>q
theorem HOk.laid (x:HOk P w H h) (k:∀b u,h.get? b=some u->h'.get? b=some u) (hp:h.objs.size<=a) (new:br P w (upd H a o) h' a o):HOk P w (upd H a o) h':=fun b u e=>by
 have hn:=x.fresh hp
 by_cases hb:b=a
 ·subst hb;rw[aJ] at e;cases e;exact new
 ·rw[ay hb] at e
  exact(x b u e).g_ (fun c v _ q=>k c v q) (fun c q=>by rw[ay (aI q hn)];exact q) fun c xs q=>by rw[ay (aI q hn)];exact q
end
noncomputable def Rd (H:Hp) (a:Addr) (u:HO):Prop:=H a=some u\/∃o,H a=some (.frz o u)
theorem Rd.ok {P:Program} {w:World} {H:Hp} {h:Heap} {a:Addr} {u:HO} (r:Rd H a u) (x:HOk P w H h):br P w H h a u:=by
 rcases r with r | ⟨o,r⟩
 ·exact x a u r
 ·obtain⟨_,q⟩:=x a _ r
  exact q
noncomputable def Mut:Option HO->Prop
 | some (.lst _)=>True
 | some (.dK _)=>True
 | some (.dT _)=>True
 | some (.set _ _)=>True
 | some (.ins _ _ _)=>True
 | some (.ext _)=>True
 | _=>False
section
variable {P:Program} {w:World} {H:Hp} {h h':Heap} {x e:Addr} {o':HO}
theorem HOk.write (ok:HOk P w H h) (mu:Mut (H x)) (he:e=x\/H e=some (.own x)) (k:∀b u,b≠e->h.get? b=some u->h'.get? b=some u) (heo:∃u,h'.get? e=some u)
  (new:br P w (upd H x o') h' x o'):HOk P w (upd H x o') h':=fun b u q=>by
 have nown:∀c y,H c=some (.own y)->c≠x:=fun c y r z=>by subst z;rw[r] at mu;exact mu
 have ntup:∀c xs,H c=some (.tup xs)->c≠x:=fun c xs r z=>by subst z;rw[r] at mu;exact mu
 by_cases hb:b=x
 ·subst hb;rw[aJ] at q;cases q;exact new
 ·rw[ay hb] at q
  by_cases hbe:b=e
  ·have q':H b=some (.own x):=by
    rcases he with z | z
    ·exact absurd (hbe.trans z) hb
    ·rw[hbe];exact z
   rw[q] at q';cases q'
   obtain⟨v,hv⟩:=heo
   exact⟨v,by rw[hbe];exact hv⟩
  ·refine(ok b u q).g_ (fun c v hc r=>k c v ?_ r) (fun c r=>by rw[ay (nown c b r)];exact r) fun c xs r=>by rw[ay (ntup c xs r)];exact r
   rcases hc with rfl | hc
   ·exact hbe
   ·rintro rfl
    rcases he with z | z
    ·exact nown c b hc z
    ·rw[hc] at z;cases z;exact hb rfl
end
structure Un (fs ex:List Addr) (H H':Hp) (h h':Heap):Prop where
 keep:∀b o,h.get? b=some o->H b=none->b∉fs->b∉ex->h'.get? b=some o
 slot:∀b o,h.get? b=some o->H b=none->b∈fs->b∉ex->∃sl,h'.get? b=some { o with slots:=sl }
 free:∀b o,h.get? b=some o->H b=none->b∉ex->H' b=none
 there:∀b o,h.get? b=some o->b∉ex->∃o',h'.get? b=some o'
 lg:∀b xs,H b=some (.tup xs)->H' b=some (.tup xs)
 kf:∀b o u,H b=some (.frz o u)->H' b=some (.frz o u)
 lu:∀b ps,H b=some (.tbl ps)->∃more,H' b=some (.tbl (ps++more))
section
variable {fs fs' ex ex':List Addr} {H H1 H2:Hp} {h h1 h2 h':Heap} {a x e:Addr} {o:HO}
theorem Un.any (u:Un fs ex H H1 h h1) {b:Addr} {ob:Obj} (q:h.get? b=some ob) (n:H b=none) (hx:b∉ex):∃sl,h1.get? b=some { ob with slots:=sl }:=by
 by_cases hb:b∈fs
 ·exact u.slot b ob q n hb hx
 ·exact⟨ob.slots,u.keep b ob q n hb hx⟩
theorem Un.kept (k:∀b u,h.get? b=some u->h'.get? b=some u):Un fs ex H H h h':=
 ⟨fun b ob q _ _ _=>k b ob q,fun b ob q _ _ _=>⟨ob.slots,k b ob q⟩,fun _ _ _ n _=>n,fun b ob q _=>⟨ob,k b ob q⟩,fun _ _ q=>q,fun _ _ _ q=>q,fun _ ps q=>⟨#[],by rw[q];simp⟩⟩
theorem Un.refl:Un fs ex H H h h:=Un.kept fun _ _ q=>q
theorem Un.laid (k:∀b u,h.get? b=some u->h'.get? b=some u) (hp:h.objs.size<=a) (hn:H a=none):Un fs ex H (upd H a o) h h' where
 keep:=fun b u q _ _ _=>k b u q
 slot:=fun b u q _ _ _=>⟨u.slots,k b u q⟩
 free:=fun b u q n _=>by rw[ay (Nat.ne_of_lt (Nat.lt_of_lt_of_le (Heap.lt_size q) hp))];exact n
 there:=fun b u q _=>⟨u,k b u q⟩
 lg:=fun b xs q=>by rw[ay (aI q hn)];exact q
 kf:=fun b u xs q=>by rw[ay (aI q hn)];exact q
 lu:=fun b ps q=>⟨#[],by rw[ay (aI q hn),q];simp⟩
theorem Un.write (mu:Mut (H x)) (he:e=x\/H e=some (.own x)) (k:∀b u,b≠e->h.get? b=some u->h'.get? b=some u) (heo:∃u,h'.get? e=some u):Un fs ex H (upd H x o) h h':=by
 have hx:∀b,H b=none->b≠x:=fun b n z=>by subst z;rw[n] at mu;exact mu
 have hb:∀b,H b=none->b≠e:=fun b n z=>by
  subst z
  rcases he with r | r
  ·exact hx b n r
  ·rw[n] at r;cases r
 have hm:∀b u,H b=some u->¬ Mut (some u)->b≠x:=fun b u q nm z=>by subst z;rw[q] at mu;exact nm mu
 refine⟨fun b u q n _ _=>k b u (hb b n) q,fun b u q n _ _=>⟨u.slots,k b u (hb b n) q⟩,fun b u q n _=>by rw[ay (hx b n)];exact n,fun b u q _=>?_,
  fun b xs q=>by rw[ay (hm b _ q fun z=>z)];exact q,fun b u xs q=>by rw[ay (hm b _ q fun z=>z)];exact q,fun b ps q=>⟨#[],by rw[ay (hm b _ q fun z=>z),q];simp⟩⟩
 by_cases hbe:b=e
 ·subst hbe;exact heo
 ·exact⟨u,k b u hbe q⟩
end
noncomputable def trk (h:Heap) (H:Hp):List Addr:=(List.range h.objs.size).filter fun a=>(H a).isSome
noncomputable def nM (h:Heap) (H:Hp):Heap:=PySem.W.hideAll h (trk h H)
theorem tu (h:Heap) (H:Hp):(nM h H).objs.size=h.objs.size:=PySem.W.hideAll_size _ _
theorem vH {h:Heap} {H:Hp} {b:Addr} {o:Obj} (e:h.get? b=some o) (n:H b=none):(nM h H).get? b=some o:=
 PySem.W.hideAll_get _ e fun hm=>by
  have q:(H b).isSome=true:=(List.mem_filter.mp hm).2
  rw[n] at q;simp at q
theorem zb {h:Heap} {H:Hp} {b:Addr} {o:Obj} (e:(nM h H).get? b=some o):h.get? b=some o/\H b=none:=by
 have e':h.get? b=some o:=PySem.W.of_hideAll (trk h H) e
 refine⟨e',?_⟩
 cases q:H b with
 | none=>rfl
 | some x=>
  have hm:b∈trk h H:=List.mem_filter.mpr ⟨List.mem_range.mpr (Heap.lt_size e'),by simp[q]⟩
  have z:(nM h H).get? b=none:=PySem.W.hideAll_none (trk h H) hm
  rw[z] at e;cases e
structure Mod (K:PySem.W.Frag) (mg:Str->Option Value) (base:Heap):Prop where
 kin:K.In base
 glob:base.Ns mainGlobals mg
 blt:∃mb,base.Ns builtinsNs mb/\∀x:Str,x≠"__name__" -> mb x=bootBuiltins x
 nolimit:base.NoLimit
structure Cx where
 prog:Program
 w:World
 K:PySem.W.Frag
 mg:Str->Option Value
 base:Heap
 A:Around
 N:List Str
 aH:Shared
 aS:Hp
 env:Env
 outer:List Env
 stack:List Env
 ex:List Addr
 fn:Str->Bool
 calm:Bool
 pn:List (Addr × Obj)
 xe:Value->Shared->Prop
noncomputable def frs (l:List Env):List Addr:=l.filterMap (·.frame)
noncomputable abbrev Cx.fs (X:Cx):List Addr:=frs X.outer
noncomputable def Vis (sc:Scope) (x:Str):Prop:=sc.names.lookup x=some .local\/sc.names.lookup x=some .cell\/sc.names.lookup x=some .free
noncomputable def Loc (sc:Scope) (x:Str):Prop:=sc.names.lookup x=some .local\/sc.names.lookup x=some .cell
noncomputable def Look (env:Env) (h:Heap) (m:Str->Option Value) (x:Str) (u:Value):Prop:=
 (env.kindOf x=some .local/\m x=some u)\/((env.kindOf x=some .cell\/env.kindOf x=some .free)/\∃c,env.cells.lookup x=some c/\h.IsCell c (some u))
structure Cx.Ok (X:Cx):Prop where
 mod:Mod X.K X.mg X.base
 kind:X.env.scope.kind=.function
 glob:X.env.globals=mainGlobals
 blt:X.env.builtins=builtinsNs
 above:X.aH.heap.objs.size<=X.env.locals
 inj:∀x y c,X.env.cells.lookup x=some c->X.env.cells.lookup y=some c->x=y
 has:∀x,(X.env.kindOf x=some .cell\/X.env.kindOf x=some .free)->∃c,X.env.cells.lookup x=some c
 cab:∀x c,X.fn x=true->X.env.cells.lookup x=some c->X.aH.heap.objs.size<=c
 hd:X.calm=true->X.A.handled=none
 frames:X.A.frames=some X.stack
 stk:X.stack=X.outer\/(X.stack=X.env::X.outer/\X.env.frame=some X.env.locals)
 exf:∀b∈X.ex,b≠X.env.locals/\∀x c,X.env.cells.lookup x=some c->c≠b
 bs:∀b o,X.base.get? b=some o->X.aH.heap.get? b=some o/\X.aS b=none
 bsz:X.base.objs.size<=X.aH.heap.objs.size
 nP:∀b o,X.base.get? b=some o->b∉X.ex
 oY:∀b∈X.ex,b∉X.fs
 fX:X.aH.heap.FunFrames X.base X.outer
 frf:∀b∈X.fs,X.aS b=none
structure Inv (X:Cx) (pins:List (Addr × Obj)) (σ:List (Option V)) (H:Hp) (s:Shared):Prop where
 ok:X.Ok
 os:s.os=X.aH.os
 bare:AllBare s.gens
 base:Un X.fs X.ex X.aS H X.aH.heap s.heap
 loc:∃m,s.heap.Ns X.env.locals m/\∀(i:Nat) (x:Str) (v:V),X.N[i]?=some x->σ[i]?=some (some v)->Vis X.env.scope x->∃u,RelV v u/\Look X.env s.heap m x u
 cell:∀x c,X.env.cells.lookup x=some c->∃v,s.heap.IsCell c v
 free:H X.env.locals=none
 cD:∀x c,X.env.cells.lookup x=some c->H c=none
 pin:∀p∈X.pn++pins,s.heap.get? p.1=some p.2/\H p.1=none/\p.1≠X.env.locals/\p.1∉X.fs/\∀v,p.2.data≠.cell v
 hok:HOk X.prog X.w H s.heap
 len:σ.length=X.N.length
section
variable {X:Cx} {pins:List (Addr × Obj)} {σ:List (Option V)} {H H':Hp} {s:Shared} {h':Heap}
theorem Cx.Ok.EU (ok:X.Ok) {b:Addr} {o:Obj} (e:X.base.get? b=some o):b∉X.fs:=fun hb=>by
 have:=(ok.fX.mem hb).1
 rw[e] at this;cases this
theorem Inv.bs (I:Inv X pins σ H s):∀b o,X.base.get? b=some o->s.heap.get? b=some o/\H b=none:=fun b o e=>
 ⟨I.base.keep b o (I.ok.bs b o e).1 (I.ok.bs b o e).2 (I.ok.EU e) (I.ok.nP b o e),I.base.free b o (I.ok.bs b o e).1 (I.ok.bs b o e).2 (I.ok.nP b o e)⟩
theorem Inv.bk (I:Inv X pins σ H s):∀b o,X.base.get? b=some o->s.heap.get? b=some o:=fun b o e=>(I.bs b o e).1
theorem Inv.mod (I:Inv X pins σ H s):Mod X.K X.mg X.base:=I.ok.mod
theorem Inv.kIn (I:Inv X pins σ H s):X.K.In s.heap:=I.ok.mod.kin.keeps I.bk
theorem Inv.nolimit (I:Inv X pins σ H s):s.heap.NoLimit:=I.ok.mod.nolimit.keeps I.bk
theorem Inv.lt (I:Inv X pins σ H s):X.env.locals<s.heap.objs.size:=let ⟨_,hn,_⟩:=I.loc;hn.lt
theorem Inv.sz (I:Inv X pins σ H s):X.aH.heap.objs.size<=s.heap.objs.size:=Nat.le_trans I.ok.above (Nat.le_of_lt I.lt)
theorem Inv.Cw (I:Inv X pins σ H s) {a:Addr} (h:s.heap.objs.size<=a):a∉X.fs:=fun hb=>by
 obtain⟨_,o,ho,_⟩:=I.ok.fX.mem hb
 exact absurd (Nat.lt_of_lt_of_le (Heap.lt_size ho) (Nat.le_trans I.sz h)) (Nat.lt_irrefl _)
theorem Inv.cne (I:Inv X pins σ H s):∀x c,X.env.cells.lookup x=some c->c≠X.env.locals:=fun x c e z=>by
 obtain⟨v,o,ho,hd⟩:=I.cell x c e
 obtain⟨m,⟨o',es,ep,ho',hd',_⟩,_⟩:=I.loc
 rw[z,ho'] at ho;cases ho;rw[hd'] at hd;cases hd
theorem Inv.fX (I:Inv X pins σ H s):s.heap.FunFrames X.base X.outer:=by
 have all:∀(l:List Env),(∀b∈frs l,b∈X.fs)->X.aH.heap.FunFrames X.base l->s.heap.FunFrames X.base l:=by
  intro l
  induction l with
  | nil=>intro _ _;trivial
  | cons env r ih=>
   intro hs hl
   obtain⟨hk,⟨L,o,hf,hn,ho,hd⟩,hr⟩:=hl
   have hL:L∈X.fs:=hs L (by unfold frs;rw[List.filterMap_cons,hf];exact List.mem_cons_self)
   obtain⟨sl,e⟩:=I.base.slot L o ho (I.ok.frf L hL) hL fun z=>I.ok.oY L z hL
   exact⟨hk,⟨L,_,hf,hn,e,hd⟩,ih (fun b hb=>hs b (by unfold frs;rw[List.filterMap_cons,hf];exact List.mem_cons_of_mem _ hb)) hr⟩
 exact all X.outer (fun _ hb=>hb) I.ok.fX
theorem Inv.stack (I:Inv X pins σ H s):s.heap.FunFrames X.base X.stack:=by
 rcases I.ok.stk with e | ⟨e,hf⟩
 ·rw[e];exact I.fX
 ·rw[e]
  obtain⟨m,hn,_⟩:=I.loc
  refine .cons (by rw[I.ok.kind];decide) hf hn ?_ I.fX
  exact Heap.get?_none_of_le (Nat.le_trans I.ok.bsz I.ok.above)
theorem Inv.e_ (I:Inv X pins σ H s):∀b∈frs X.stack,b∈X.env.locals::X.fs:=fun b hb=>by
 rcases I.ok.stk with e | ⟨e,hf⟩
 ·rw[e] at hb;exact List.mem_cons_of_mem _ hb
 ·rw[e] at hb
  unfold frs at hb
  rw[List.filterMap_cons,hf] at hb
  exact hb
theorem Inv.mH (I:Inv X pins σ H s):∀b∈frs X.stack,H b=none:=fun b hb=>by
 rcases List.mem_cons.mp (I.e_ b hb) with e | hb
 ·rw[e];exact I.free
 ·obtain⟨_,o,ho,_⟩:=I.ok.fX.mem hb
  exact I.base.free b o ho (I.ok.frf b hb) fun z=>I.ok.oY b z hb
theorem Inv.step {g':Array GenState} {t':Nat} {d':Drawn} {ch:List Addr} (I:Inv X pins σ H s)
  (hch:∀b∈ch,(b∈X.ex\/X.aH.heap.objs.size<=b)/\b≠X.env.locals/\(∀x c,X.env.cells.lookup x=some c->c≠b)/\∀p∈X.pn++pins,p.1≠b)
  (keep:∀b o,b≠X.env.locals->b∉X.fs->b∉ch->s.heap.get? b=some o->H b=none->h'.get? b=some o)
  (slot:∀b o,b≠X.env.locals->b∈X.fs->b∉ch->s.heap.get? b=some o->H b=none->∃sl,h'.get? b=some { o with slots:=sl }) (free:∀b o,b∉ch->s.heap.get? b=some o->H b=none->H' b=none)
  (there:∀b o,b∉ch->s.heap.get? b=some o->∃o',h'.get? b=some o')
  (lg:∀b xs,H b=some (.tup xs)->H' b=some (.tup xs)) (kf:∀b o u,H b=some (.frz o u)->H' b=some (.frz o u)) (lu:∀b ps,H b=some (.tbl ps)->∃more,H' b=some (.tbl (ps++more)))
  (ns:∀m,s.heap.Ns X.env.locals m->h'.Ns X.env.locals m) (hok:HOk X.prog X.w H' h') (hg:AllBare g') :
  Inv X pins σ H' { s with heap:=h',gens:=g',drawn:=d',toks:=t' }:=by
 have neL:∀b o,X.aH.heap.get? b=some o->b≠X.env.locals:=fun b o e=>Nat.ne_of_lt (Nat.lt_of_lt_of_le (Heap.lt_size e) I.ok.above)
 have neC:∀b o,X.aH.heap.get? b=some o->b∉X.ex->b∉ch:=fun b o e hx hb=>by
  rcases(hch b hb).1 with z | z
  ·exact hx z
  ·exact absurd (Nat.lt_of_lt_of_le (Heap.lt_size e) z) (Nat.lt_irrefl _)
 have cellK:∀x c,X.env.cells.lookup x=some c->∀v,s.heap.IsCell c v->h'.IsCell c v:=fun x c e v ⟨o,ho,hd⟩=>by
  have nch:c∉ch:=fun z=>(hch c z).2.2.1 x c e rfl
  by_cases hc:c∈X.fs
  ·obtain⟨sl,q⟩:=slot c o (I.cne x c e) hc nch ho (I.cD x c e)
   exact⟨_,q,hd⟩
  ·exact⟨o,keep c o (I.cne x c e) hc nch ho (I.cD x c e),hd⟩
 refine⟨I.ok,I.os,hg,⟨fun b o e n hb hx=>?_,fun b o e n hb hx=>?_,fun b o e n hx=>?_,fun b o e hx=>?_,fun b xs e=>lg b xs (I.base.lg b xs e),fun b o xs e=>kf b o xs (I.base.kf b o xs e),fun b ps e=>?_⟩,?_,fun x c e=>?_,?_,fun x c e=>?_,fun p hp=>?_,hok,I.len⟩
 ·exact keep b o (neL b o e) hb (neC b o e hx) (I.base.keep b o e n hb hx) (I.base.free b o e n hx)
 ·obtain⟨sl,e1⟩:=I.base.slot b o e n hb hx
  obtain⟨sl',e2⟩:=slot b _ (neL b o e) hb (neC b o e hx) e1 (I.base.free b o e n hx)
  exact⟨sl',e2⟩
 ·obtain⟨o',e1⟩:=I.base.there b o e hx
  exact free b o' (neC b o e hx) e1 (I.base.free b o e n hx)
 ·obtain⟨o',e1⟩:=I.base.there b o e hx
  exact there b o' (neC b o e hx) e1
 ·obtain⟨m1,e1⟩:=I.base.lu b ps e
  obtain⟨m2,e2⟩:=lu b _ e1
  exact⟨m1++m2,by rw[e2,Array.append_assoc]⟩
 ·obtain⟨m,hn,hl⟩:=I.loc
  refine⟨m,ns m hn,fun i x v e1 e2 e3=>?_⟩
  obtain⟨u,r,l⟩:=hl i x v e1 e2 e3
  refine⟨u,r,?_⟩
  rcases l with l | ⟨k,c,e,z⟩
  ·exact .inl l
  ·exact .inr ⟨k,c,e,cellK x c e _ z⟩
 ·obtain⟨v,z⟩:=I.cell x c e
  exact⟨v,cellK x c e v z⟩
 ·obtain⟨m,⟨o,_,_,ho,_⟩,_⟩:=I.loc
  exact free _ o (fun z=>(hch _ z).2.1 rfl) ho I.free
 ·obtain⟨v,o,ho,hd⟩:=I.cell x c e
  exact free c o (fun z=>(hch c z).2.2.1 x c e rfl) ho (I.cD x c e)
 ·obtain⟨e,n,ne,nf,d⟩:=I.pin p hp
  have nch:p.1∉ch:=fun z=>(hch p.1 z).2.2.2 p hp rfl
  exact⟨keep p.1 p.2 ne nf nch e n,free p.1 p.2 nch e n,ne,nf,d⟩
theorem Inv.un {t':Nat} (I:Inv X pins σ H s) (u:Un X.fs [] H H' s.heap h') (hok:HOk X.prog X.w H' h'):Inv X pins σ H' { s with heap:=h',toks:=t' }:=by
 obtain⟨m,⟨o,es,ep,ho,r⟩,_⟩:=id I.loc
 obtain⟨sl,hL⟩:=u.any ho I.free (by simp)
 exact I.step (g':=s.gens) (d':=s.drawn) (ch:=[]) (fun _ z=>nomatch z) (fun b o _ hb _ e n=>u.keep b o e n hb (by simp)) (fun b o _ hb _ e n=>u.slot b o e n hb (by simp)) (fun b o _ e n=>u.free b o e n (by simp)) (fun b o _ e=>u.there b o e (by simp)) u.lg u.kf u.lu (fun m' hm=>by
  obtain⟨o',es',ep',ho',r'⟩:=hm
  rw[ho] at ho';cases ho'
  exact⟨_,es',ep',hL,r'⟩) hok I.bare
theorem Inv.call {g':Array GenState} {t':Nat} {d':Drawn} {ch:List Addr} (I:Inv X pins σ H s) (u:Un (frs X.stack) ch H H' s.heap h') (hok:HOk X.prog X.w H' h') (hg:AllBare g')
  (hch:∀b∈ch,(b∈X.ex\/X.aH.heap.objs.size<=b)/\b≠X.env.locals/\(∀x c,X.env.cells.lookup x=some c->c≠b)/\∀p∈X.pn++pins,p.1≠b) :
  Inv X pins σ H' { s with heap:=h',gens:=g',drawn:=d',toks:=t' }:=by
 obtain⟨m,⟨o,es,ep,ho,r⟩,_⟩:=id I.loc
 obtain⟨sl,hL⟩:=u.any ho I.free fun z=>(hch _ z).2.1 rfl
 exact I.step (ch:=ch) hch (fun b o hL hb hc e n=>u.keep b o e n (fun z=>(List.mem_cons.mp (I.e_ b z)).elim hL hb) hc) (fun b o _ _ hc e n=>u.any e n hc) (fun b o hc e n=>u.free b o e n hc) (fun b o hc e=>u.there b o e hc) u.lg u.kf u.lu (fun m' hm=>by
  obtain⟨o',es',ep',ho',r'⟩:=hm
  rw[ho] at ho';cases ho'
  exact⟨_,es',ep',hL,r'⟩) hok hg
theorem Inv.turned {t':Nat} {it:Addr} (I:Inv X pins σ H s) (k:∀b o,b≠it->s.heap.get? b=some o->h'.get? b=some o) (hn:H it=none) (hL:it≠X.env.locals)
  (h1:it∈X.ex\/X.aH.heap.objs.size<=it) (h2:∀x c,X.env.cells.lookup x=some c->c≠it) (h3:∀p∈X.pn++pins,p.1≠it):Inv X pins σ H { s with heap:=h',toks:=t' }:=by
 have nit:∀b u,H b=some u->b≠it:=fun b u e z=>by rw[z,hn] at e;cases e
 refine I.step (g':=s.gens) (d':=s.drawn) (ch:=[it]) (fun b hb=>?_) (fun b o _ _ hc e _=>k b o (fun z=>hc (by simp[z])) e) (fun b o _ _ hc e _=>⟨o.slots,k b o (fun z=>hc (by simp[z])) e⟩) (fun _ _ _ _ n=>n)
  (fun b o hc e=>⟨o,k b o (fun z=>hc (by simp[z])) e⟩) (fun _ _ e=>e) (fun _ _ _ e=>e) (fun b ps e=>⟨#[],by rw[e];simp⟩) (fun m hm=>?_) (fun b u e=>?_) I.bare
 ·have e:b=it:=by simpa using hb
  subst e
  exact⟨h1,hL,h2,h3⟩
 ·obtain⟨o,es,ep,ho,r⟩:=hm
  exact⟨o,es,ep,k _ o (Ne.symm hL) ho,r⟩
 ·refine(I.hok b u e).g_ (fun c v hc q=>k c v ?_ q) (fun _ q=>q) fun _ _ q=>q
  rcases hc with z | z
  ·rw[z];exact nit b u e
  ·exact nit c _ z
theorem Inv.tok (I:Inv X pins σ H s) (t:Nat):Inv X pins σ H { s with toks:=t }:=I.un (h':=s.heap) (t':=t) Un.refl I.hok
theorem Inv.kept {t':Nat} (I:Inv X pins σ H s) (k:∀b u,s.heap.get? b=some u->h'.get? b=some u):Inv X pins σ H { s with heap:=h',toks:=t' }:=I.un (Un.kept k) (I.hok.kept k)
theorem Inv.laid {a:Addr} {o:HO} {t':Nat} (I:Inv X pins σ H s) (k:∀b u,s.heap.get? b=some u->h'.get? b=some u) (hp:s.heap.objs.size<=a) (new:br X.prog X.w (upd H a o) h' a o) :
  Inv X pins σ (upd H a o) { s with heap:=h',toks:=t' }:=I.un (Un.laid k hp (I.hok.fresh hp)) (I.hok.laid k hp new)
theorem Inv.write {x e:Addr} {o:HO} {t':Nat} (I:Inv X pins σ H s) (mu:Mut (H x)) (he:e=x\/H e=some (.own x)) (k:∀b u,b≠e->s.heap.get? b=some u->h'.get? b=some u) (heo:∃u,h'.get? e=some u)
  (new:br X.prog X.w (upd H x o) h' x o):Inv X pins σ (upd H x o) { s with heap:=h',toks:=t' }:=I.un (Un.write mu he k heo) (I.hok.write mu he k heo new)
theorem Inv.jH {pins':List (Addr × Obj)} (I:Inv X pins σ H s) (h:∀p∈pins',s.heap.get? p.1=some p.2/\H p.1=none/\p.1≠X.env.locals/\p.1∉X.fs/\∀v,p.2.data≠.cell v):Inv X pins' σ H s:=
 ⟨I.ok,I.os,I.bare,I.base,I.loc,I.cell,I.free,I.cD,fun p hp=>(List.mem_append.mp hp).elim (fun z=>I.pin p (List.mem_append_left _ z)) (h p),I.hok,I.len⟩
theorem oU {N:List Str} (hN:N.Nodup) {i j:Nat} {x:Str} (a:N[i]?=some x) (b:N[j]?=some x):i=j:=by
 obtain⟨h1,e1⟩:=List.getElem?_eq_some_iff.mp a
 obtain⟨h2,e2⟩:=List.getElem?_eq_some_iff.mp b
 exact(List.getElem_inj hN).mp (e1.trans e2.symm)
theorem tK {M:Model} {A:Around} {E:Value->Shared->Prop} {i:Nat} {x:Str} {v:V} {u:Value} {Q:Unit->Shared->Prop} (I:Inv X pins σ H s) (hN:X.N.Nodup) (hi:X.N[i]?=some x) (hx:Loc X.env.scope x) (r:RelV v u)
  (h:∀s',Inv X pins (σ.set i (some v)) H s'->(∃a,Heap.SameBut a s.heap s'.heap/\(a=X.env.locals\/X.env.cells.lookup x=some a))->Q () s') (hf:X.fn x=true\/X.env.scope.names.lookup x=some .local:=by first | exact .inl rfl | exact .inr rfl | assumption):wpAny M A (storeName X.env x u) Q E s:=by
 obtain⟨m,hn,hl⟩:=id I.loc
 have hcls:(X.env.scope.kind == .class || (X.env.scope.kind == .module&&X.env.locals != X.env.globals))=false:=by rw[I.ok.kind];rfl
 have hiσ:i<σ.length:=by rw[I.len];exact(List.getElem?_eq_some_iff.mp hi).1
 have cne:=I.cne
 have tracked:∀{a:Addr} {h':Heap},(∃o,s.heap.get? a=some o/\H a=none)->Heap.SameBut a s.heap h'->HOk X.prog X.w H h':=fun{a h'} ha hs b ob e=>by
  obtain⟨_,_,hfree⟩:=ha
  refine(I.hok b ob e).g_ (fun c w' hc q=>(hs.2 c ?_).trans q) (fun _ q=>q) fun _ _ q=>q
  rintro rfl
  rcases hc with rfl | hc
  ·rw[hfree] at e;cases e
  ·rw[hfree] at hc;cases hc
 rcases hx with hk | hk
 ·refine wpAny_storeName_local hk hn (fun h' hn' hs=>?_) hcls
  obtain⟨oL,_,_,hoL,_⟩:=id hn
  refine h _ ⟨I.ok,I.os,I.bare,⟨fun b o e n hb hx=>?_,fun b o e n hb hx=>?_,I.base.free,fun b o e hx=>?_,I.base.lg,I.base.kf,I.base.lu⟩,⟨_,hn',fun j y v' e1 e2 e3=>?_⟩,fun y c e=>?_,I.free,I.cD,fun p hp=>?_,tracked ⟨oL,hoL,I.free⟩ hs,by simpa using I.len⟩ ⟨_,hs,.inl rfl⟩
  ·exact(hs.2 b (Nat.ne_of_lt (Nat.lt_of_lt_of_le (Heap.lt_size e) I.ok.above))).trans (I.base.keep b o e n hb hx)
  ·obtain⟨sl,e1⟩:=I.base.slot b o e n hb hx
   exact⟨sl,(hs.2 b (Nat.ne_of_lt (Nat.lt_of_lt_of_le (Heap.lt_size e) I.ok.above))).trans e1⟩
  ·obtain⟨o',e1⟩:=I.base.there b o e hx
   exact⟨o',(hs.2 b (Nat.ne_of_lt (Nat.lt_of_lt_of_le (Heap.lt_size e) I.ok.above))).trans e1⟩
  ·by_cases hj:j=i
   ·subst hj
    rw[hi] at e1;cases e1
    rw[List.getElem?_set_self hiσ] at e2
    cases e2
    exact⟨u,r,.inl ⟨hk,by simp⟩⟩
   ·rw[List.getElem?_set_ne (Ne.symm hj)] at e2
    obtain⟨u',r',q⟩:=hl j y v' e1 e2 e3
    refine⟨u',r',?_⟩
    rcases q with⟨k,e⟩ | ⟨k,c,e,z⟩
    ·refine .inl ⟨k,?_⟩
     have:y≠x:=fun e=>hj (oU hN e1 (e ▸ hi))
     simp[this,e]
    ·exact .inr ⟨k,c,e,z.sameBut hs (cne y c e)⟩
  ·obtain⟨w',z⟩:=I.cell y c e
   exact⟨w',z.sameBut hs (cne y c e)⟩
  ·obtain⟨e,n,ne,nf,d⟩:=I.pin p hp
   exact⟨(hs.2 p.1 ne).trans e,n,ne,nf,d⟩
 ·have hfn:X.fn x=true:=by
   rcases hf with z | z
   ·exact z
   ·rw[z] at hk;cases hk
  obtain⟨c,hc⟩:=I.ok.has x (.inl hk)
  obtain⟨w',z⟩:=I.cell x c hc
  refine wpAny_storeName_cell I.ok.kind hk hc z (fun h' hc' hs=>?_)
  obtain⟨oc,hoc,hocd⟩:=id z
  refine h { s with heap:=h' } ⟨I.ok,I.os,I.bare,⟨fun b o e n hb hx=>?_,fun b o e n hb hx=>?_,I.base.free,fun b o e hx=>?_,I.base.lg,I.base.kf,I.base.lu⟩,⟨m,hn.sameBut hs (Ne.symm (cne x c hc)),fun j y v' e1 e2 e3=>?_⟩,fun y c' e=>?_,I.free,I.cD,fun p hp=>?_,tracked ⟨oc,hoc,I.cD x c hc⟩ hs,by simpa using I.len⟩ ⟨c,hs,.inr hc⟩
  ·exact(hs.2 b (Nat.ne_of_lt (Nat.lt_of_lt_of_le (Heap.lt_size e) (I.ok.cab x c hfn hc)))).trans (I.base.keep b o e n hb hx)
  ·obtain⟨sl,e1⟩:=I.base.slot b o e n hb hx
   exact⟨sl,(hs.2 b (Nat.ne_of_lt (Nat.lt_of_lt_of_le (Heap.lt_size e) (I.ok.cab x c hfn hc)))).trans e1⟩
  ·obtain⟨o',e1⟩:=I.base.there b o e hx
   exact⟨o',(hs.2 b (Nat.ne_of_lt (Nat.lt_of_lt_of_le (Heap.lt_size e) (I.ok.cab x c hfn hc)))).trans e1⟩
  ·by_cases hj:j=i
   ·subst hj
    rw[hi] at e1;cases e1
    rw[List.getElem?_set_self hiσ] at e2
    cases e2
    exact⟨u,r,.inr ⟨.inl hk,c,hc,hc'⟩⟩
   ·rw[List.getElem?_set_ne (Ne.symm hj)] at e2
    obtain⟨u',r',q⟩:=hl j y v' e1 e2 e3
    refine⟨u',r',?_⟩
    rcases q with q | ⟨k,c',e,z'⟩
    ·exact .inl q
    ·refine .inr ⟨k,c',e,z'.sameBut hs ?_⟩
     rintro rfl
     exact hj (oU hN e1 (I.ok.inj _ _ _ e hc ▸ hi))
  ·by_cases hcc:c'=c
   ·subst hcc;exact⟨_,hc'⟩
   ·obtain⟨w2,z2⟩:=I.cell y c' e
    exact⟨w2,z2.sameBut hs hcc⟩
  ·obtain⟨e,n,ne,nf,d⟩:=I.pin p hp
   refine⟨(hs.2 p.1 ?_).trans e,n,ne,nf,d⟩
   intro q
   rw[q,hoc] at e
   have q':oc=p.2:=Option.some.inj e
   exact d w' (by rw[<- q'];exact hocd)
theorem eC {M:Model} {A:Around} {E:Value->Shared->Prop} {i:Nat} {x:Str} {v:V} {u:Value} {Q:Unit->Shared->Prop} (I:Inv X pins σ H s) (hN:X.N.Nodup) (hi:X.N[i]?=some x) (hx:Loc X.env.scope x) (r:RelV v u)
  (h:∀s',Inv X pins (σ.set i (some v)) H s'->Q () s') (hf:X.fn x=true\/X.env.scope.names.lookup x=some .local:=by first | exact .inl rfl | exact .inr rfl | assumption):wpAny M A (storeName X.env x u) Q E s:=
 tK I hN hi hx r (fun s' I' _=>h s' I') hf
theorem Inv.pR {s':Shared} {ch:List Addr} (I:Inv X pins σ H s) (ho:s'.os=s.os) (u:Un (frs X.stack) ch H H' s.heap s'.heap) (hok:HOk X.prog X.w H' s'.heap) (hg:AllBare s'.gens)
  (hch:∀b∈ch,(b∈X.ex\/X.aH.heap.objs.size<=b)/\b≠X.env.locals/\(∀x c,X.env.cells.lookup x=some c->c≠b)/\∀p∈X.pn++pins,p.1≠b):Inv X pins σ H' s':=by
 obtain⟨h',g',d',t',o'⟩:=s'
 have e:o'=s.os:=ho
 subst e
 exact I.call (g':=g') (t':=t') (d':=d') u hok hg hch
end
noncomputable abbrev XK:=Value->Option Addr->Hp->Prop
noncomputable abbrev St:=List (Option V)
noncomputable abbrev VK:=V->Hp->Prop
noncomputable abbrev TE:=St->Hp->VK->Prop
noncomputable abbrev TT:=St->Hp->(Bool->Hp->Prop)->Prop
noncomputable abbrev TA:=St->Hp->(List V->Hp->Prop)->Prop
structure Ends where
 nx:St->Hp->Prop
 rt:VK
 bk:St->Hp->Prop:=fun _ _=>False
 ct:St->Hp->Prop:=fun _ _=>False
noncomputable abbrev TS:=Ends->St->Hp->Prop
noncomputable def EP (X:Cx) (pins:List (Addr × Obj)) (σ:St) (Q:VK) (u:Value) (s':Shared):Prop:=∃v H',Inv X pins σ H' s'/\RelV v u/\Q v H'
noncomputable def TP (X:Cx) (pins:List (Addr × Obj)) (σ:St) (Q:Bool->Hp->Prop) (b:Bool) (s':Shared):Prop:=∃H',Inv X pins σ H' s'/\Q b H'
noncomputable def AP (X:Cx) (pins:List (Addr × Obj)) (σ:St) (Q:List V->Hp->Prop) (us:List Value) (s':Shared):Prop:=∃vs H',Inv X pins σ H' s'/\Vals vs us/\Q vs H'
noncomputable def SP (X:Cx) (pins:List (Addr × Obj)) (D:Ends) (f:Flow) (s':Shared):Prop:=
 match f with
 | .next=>∃σ' H',Inv X pins σ' H' s'/\D.nx σ' H'
 | .brk=>∃σ' H',Inv X pins σ' H' s'/\D.bk σ' H'
 | .cont=>∃σ' H',Inv X pins σ' H' s'/\D.ct σ' H'
 | .ret u=>∃v σ' H',Inv X pins σ' H' s'/\RelV v u/\D.rt v H'
noncomputable def PE (X:Cx) (e:Expr) (t:TE):Prop:=
 ∀(pins:List (Addr × Obj)) (s:Shared) (σ:St) (H:Hp) (Q:VK),Inv X pins σ H s->t σ H Q->wpAny (model X.prog X.w) X.A (eval e X.env) (EP X pins σ Q) X.xe s
noncomputable def PT (X:Cx) (e:Expr) (t:TT):Prop:=
 ∀(pins:List (Addr × Obj)) (s:Shared) (σ:St) (H:Hp) (Q:Bool->Hp->Prop),Inv X pins σ H s->t σ H Q->wpAny (model X.prog X.w) X.A (isTrue e X.env (eval e X.env)) (TP X pins σ Q) X.xe s
noncomputable def PW (X:Cx) (e:Expr) (t:TT):Prop:=
 ∀(whole:Sem Value) (pins:List (Addr × Obj)) (s:Shared) (σ:St) (H:Hp) (Q:Bool->Hp->Prop),Inv X pins σ H s->t σ H Q->wpAny (model X.prog X.w) X.A (isTrue e X.env whole) (TP X pins σ Q) X.xe s
theorem PW.pt {X:Cx} {e:Expr} {t:TT} (h:PW X e t):PT X e t:=h _
noncomputable def PA (X:Cx) (es:List Expr) (t:TA):Prop:=
 ∀(pos:Pos) (pins:List (Addr × Obj)) (s:Shared) (σ:St) (H:Hp) (Q:List V->Hp->Prop),Inv X pins σ H s->t σ H Q->wpAny (model X.prog X.w) X.A (spliced (backTo pos (starEach es X.env))) (AP X pins σ Q) X.xe s
noncomputable def PS (X:Cx) (st:Stmt) (t:TS):Prop:=
 ∀(pins:List (Addr × Obj)) (s:Shared) (σ:St) (H:Hp) (D:Ends),Inv X pins σ H s->t D σ H->wpAny (model X.prog X.w) X.A (exec st X.env) (SP X pins D) X.xe s
noncomputable def PSs (X:Cx) (st:List Stmt) (t:TS):Prop:=
 ∀(pins:List (Addr × Obj)) (s:Shared) (σ:St) (H:Hp) (D:Ends),Inv X pins σ H s->t D σ H->wpAny (model X.prog X.w) X.A (execs st X.env) (SP X pins D) X.xe s
theorem thn {α:Type} {t:Sem α} {Q Q':α->Shared->Prop} {M:Model} {A:Around} {E:Value->Shared->Prop} {s:Shared} (h:wpAny M A t Q E s) (hQ:∀a s,Q a s->Q' a s):wpAny M A t Q' E s:=wpAny_mono h hQ fun _ _ x=>x
section
variable {X:Cx}
noncomputable def Ep (i:Nat):TE:=fun σ H Q=>∃v,σ[i]?=some (some v)/\Q v H
noncomputable def tC (v:V):TE:=fun _ H Q=>Q v H
theorem wK {i:Nat} {x:Str} {pos:Pos} (hN:X.N[i]?=some x) (hv:Vis X.env.scope x) (hd:(x == ("__debug__" : Str))=false:=by decide) (hcd:(x == ("__classdict__" : Str))=false:=by decide):PE X (.Name x pos) (Ep i):=by
 intro pins s σ H Q I h
 obtain⟨v,e,h⟩:=h
 obtain⟨m,hn,hl⟩:=I.loc
 obtain⟨u,r,l⟩:=hl i x v hN e hv
 have fin:EP X pins σ Q u s:=⟨v,H,I,r,h⟩
 rcases l with⟨hk,hm⟩ | ⟨hk,c,hc,hcell⟩
 ·exact wpAny_Name (wpAny_loadName_local I.ok.kind hk hn hm fin) hd
 ·rcases hk with hk | hk
  ·exact wpAny_Name (wpAny_loadName_cell I.ok.kind hk hc hcell fin) hd
  ·exact wpAny_Name (wpAny_loadName_free I.ok.kind hk hc hcell fin hcd) hd
theorem AQ {i j pos}:PE X (.Constant (.int i) j pos) (tC (.int i)):=fun _ _ _ H _ I h=>wpAny_Constant_int ⟨.int i,H,I.tok _,⟨_,rfl⟩,h⟩
theorem Dx {b j pos}:PE X (.Constant (.bool b) j pos) (tC (.bl b)):=fun _ _ _ H _ I h=>Constant_bool ⟨.bl b,H,I,rfl,h⟩
theorem AS {j pos}:PE X (.Constant .none j pos) (tC .non):=fun _ _ _ H _ I h=>Constant_none ⟨.non,H,I,rfl,h⟩
theorem AU {x j pos}:PE X (.Constant (.str x) j pos) (tC (.str x)):=fun _ _ _ H _ I h=>Calls.Constant_str ⟨.str x,H,I.tok _,⟨_,rfl⟩,h⟩
noncomputable def Gl (X:Cx) (x:Str):Prop:=X.env.kindOf x=some .globalImplicit
theorem fR {E:Value->Shared->Prop} {pins:List (Addr × Obj)} {s:Shared} {σ:St} {H:Hp} {x:Str} {u:Value} {pos:Pos} {Q:Value->Shared->Prop} (I:Inv X pins σ H s) (hg:Gl X x) (hm:X.mg x=some u) (h:Q u s)
  (hd:(x == ("__debug__" : Str))=false:=by decide):wpAny (model X.prog X.w) X.A (eval (.Name x pos) X.env) Q E s:=
 Calls.Name_function_global I.ok.kind hg (Calls.loadGlobal_global (by rw[I.ok.glob];exact I.mod.glob.keeps I.bk) hm h) hd
theorem kL {E:Value->Shared->Prop} {pins:List (Addr × Obj)} {s:Shared} {σ:St} {H:Hp} {x:Str} {u:Value} {pos:Pos} {Q:Value->Shared->Prop} (I:Inv X pins σ H s) (hg:Gl X x) (hm:X.mg x=none) (hv:bootBuiltins x=some u) (h:Q u s)
  (hn:x≠"__name__" := by decide) (hd:(x == ("__debug__" : Str))=false:=by decide):wpAny (model X.prog X.w) X.A (eval (.Name x pos) X.env) Q E s:=by
 obtain⟨mb,h1,h2⟩:=I.mod.blt
 exact Calls.Name_function_global I.ok.kind hg (Calls.loadGlobal_builtin (by rw[I.ok.glob];exact I.mod.glob.keeps I.bk) hm (by rw[I.ok.blt];exact h1.keeps I.bk) ((h2 x hn).trans hv) h) hd
theorem yV {x:Str} {v:V} {u:Value} {pos:Pos} (hg:Gl X x) (hm:X.mg x=some u) (r:RelV v u) (hd:(x == ("__debug__" : Str))=false:=by decide):PE X (.Name x pos) (tC v):=
 fun _ _ _ H _ I h=>fR I hg hm ⟨v,H,I,r,h⟩ hd
theorem rG {x:Str} {v:V} {u:Value} {pos:Pos} (hg:Gl X x) (hm:X.mg x=none) (hv:bootBuiltins x=some u) (r:RelV v u) (hn:x≠"__name__" := by decide) (hd:(x == ("__debug__" : Str))=false:=by decide):PE X (.Name x pos) (tC v):=
 fun _ _ _ H _ I h=>kL I hg hm hv ⟨v,H,I,r,h⟩ hn hd
variable {a b:Expr} {ta tb:TE} {pos:Pos}
variable {tA tB':TT} {rest:List Expr}
noncomputable def D6 (t u:TT):TT:=fun σ H Q=>t σ H fun c H1=>if c=true then u σ H1 Q else Q false H1
noncomputable def tOr (t u:TT):TT:=fun σ H Q=>t σ H fun c H1=>if c=true then Q true H1 else u σ H1 Q
noncomputable def EL (t:TT):TT:=fun σ H Q=>t σ H fun c H1=>Q (!c) H1
theorem pw_and1 (ha:PT X a tA):PW X (.BoolOp .And [a] pos) tA:=by
 intro wh pins s σ H Q I h
 refine isTrue_and (thn (ha pins s σ H Q I h) fun c s1 e=>?_)
 cases c with
 | true=>exact isTrue_and_nil e
 | false=>exact e
theorem pw_or1 (ha:PT X a tA):PW X (.BoolOp .Or [a] pos) tA:=by
 intro wh pins s σ H Q I h
 refine isTrue_or (thn (ha pins s σ H Q I h) fun c s1 e=>?_)
 cases c with
 | false=>exact isTrue_or_nil e
 | true=>exact e
theorem pw_and (ha:PT X a tA) (hb:PW X (.BoolOp .And (b::rest) pos) tB'):PW X (.BoolOp .And (a::b::rest) pos) (D6 tA tB'):=by
 intro wh pins s σ H Q I h
 refine isTrue_and (thn (ha pins s σ H _ I h) fun c s1 ⟨H1,I1,q1⟩=>?_)
 cases c with
 | true=>exact hb wh pins s1 σ H1 Q I1 q1
 | false=>exact⟨H1,I1,q1⟩
theorem pw_or (ha:PT X a tA) (hb:PW X (.BoolOp .Or (b::rest) pos) tB'):PW X (.BoolOp .Or (a::b::rest) pos) (tOr tA tB'):=by
 intro wh pins s σ H Q I h
 refine isTrue_or (thn (ha pins s σ H _ I h) fun c s1 ⟨H1,I1,q1⟩=>?_)
 cases c with
 | true=>exact⟨H1,I1,q1⟩
 | false=>exact hb wh pins s1 σ H1 Q I1 q1
theorem BG (ha:PT X a tA):PT X (.UnaryOp .Not a pos) (EL tA):=by
 intro pins s σ H Q I h
 exact isTrue_not (ha pins s σ H (fun c H1=>Q (!c) H1) I h)
noncomputable def Dz (ta tb:TE):TE:=fun σ H Q=>ta σ H fun x H1=>∃c,x=.bl c/\if c=true then tb σ H1 Q else Q (.bl false) H1
noncomputable def B5 (ta:TE):TE:=fun σ H Q=>ta σ H fun x H1=>∃c,x=.bl c/\Q (.bl (!c)) H1
theorem zU {op} {t:TE} (h:PE X a t):PE X (.BoolOp op [a] pos) t:=fun pins s σ H Q I hw=>BoolOp_one (h pins s σ H Q I hw)
theorem Br (ha:PE X a ta) (hb:PE X (.BoolOp .And (b::rest) pos) tb):PE X (.BoolOp .And (a::b::rest) pos) (Dz ta tb):=by
 intro pins s σ H Q I h
 refine BoolOp_and (thn (ha pins s σ H _ I h) fun v s1 ⟨x,H1,I1,r1,q1⟩=>?_)
 obtain⟨c,rfl,q1⟩:=q1
 cases r1
 refine wpAny_truthy_bool ?_
 cases c with
 | true=>exact hb pins s1 σ H1 Q I1 q1
 | false=>exact⟨.bl false,H1,I1,rfl,q1⟩
theorem Ad (ha:PE X a ta):PE X (.UnaryOp .Not a pos) (B5 ta):=by
 intro pins s σ H Q I h
 refine UnaryOp_ (thn (ha pins s σ H _ I h) fun v s1 ⟨x,H1,I1,r1,q1⟩=>?_)
 obtain⟨c,rfl,q1⟩:=q1
 cases r1
 exact not_of (wpAny_truthy_bool ⟨.bl (!c),H1,I1,rfl,q1⟩)
noncomputable def tIf (t:TT) (ta tb:TE):TE:=fun σ H Q=>t σ H fun c H1=>if c=true then ta σ H1 Q else tb σ H1 Q
theorem uE {c:Expr} (hc:PT X c tA) (ha:PE X a ta) (hb:PE X b tb):PE X (.IfExp c a b pos) (tIf tA ta tb):=by
 intro pins s σ H Q I h
 refine wpAny_IfExp (thn (hc pins s σ H _ I h) fun d s1 ⟨H1,I1,q1⟩=>?_)
 cases d with
 | true=>exact ha pins s1 σ H1 Q I1 q1
 | false=>exact hb pins s1 σ H1 Q I1 q1
end
noncomputable def SqL (K:PySem.W.Frag) (H:Hp) (a:Addr) (xs:List V):Prop:=
 Rd H a (.lst xs) ∨
  ∃(o:Obj) (its:Array Value) (n:Nat),K.lookup a=some o/\o.cls=.type "list" /\ o.dict=none/\o.data=.seq its n/\its.size<=sizeLine/\Vals xs its.toList
noncomputable def SqT (K:PySem.W.Frag) (H:Hp) (a:Addr) (xs:List V):Prop:=
 Rd H a (.tup xs) ∨
  ∃(o:Obj) (its:Array Value) (n:Nat),K.lookup a=some o/\o.cls=.type "tuple" /\ o.data=.seq its n/\its.size<=sizeLine/\Vals xs its.toList
noncomputable def DV:Value->Option V
 | .none=>some .non
 | .bool b=>some (.bl b)
 | .int i _=>some (.int i)
 | .str x _=>some (.str x)
 | .bytes b _=>some (.byt b)
 | .float b _=>some (.flt b)
 | .ref a=>some (.ref a)
 | .type n=>some (.ty n)
 | _=>none
theorem RelV.abs {x:V} {u:Value} (r:RelV x u):DV u=some x:=by
 cases x with
 | non=>cases r;rfl
 | bl _=>cases r;rfl
 | int _=>obtain⟨t,rfl⟩:=r;rfl
 | str _=>obtain⟨t,rfl⟩:=r;rfl
 | byt _=>obtain⟨t,rfl⟩:=r;rfl
 | flt _=>obtain⟨t,rfl⟩:=r;rfl
 | ref _=>cases r;rfl
 | ty _=>cases r;rfl
theorem RelV.inj {x y:V} {u:Value} (r:RelV x u) (q:RelV y u):x=y:=Option.some.inj (r.abs.symm.trans q.abs)
theorem Vals.inj:∀{xs ys:List V} {us:List Value},Vals xs us->Vals ys us->xs=ys
 | _,_,_,.nil,.nil=>rfl
 | _,_,_,.cons r t,.cons r' t'=>by rw[r.inj r',Vals.inj t t']
section
variable {X:Cx} {pins:List (Addr × Obj)} {σ:St} {H:Hp} {s:Shared} {a:Addr} {xs ys:List V}
theorem SqL.of {K:PySem.W.Frag} (h:H a=some (.lst xs)):SqL K H a xs:=.inl (.inl h)
theorem SqT.of {K:PySem.W.Frag} (h:H a=some (.tup xs)):SqT K H a xs:=.inl (.inl h)
theorem Inv.list (I:Inv X pins σ H s) (h:SqL X.K H a xs):∃its:List Value,Vals xs its/\PlainL s.heap a its.toArray/\xs.length<=sizeLine:=by
 rcases h with h | ⟨o,its,n,hk,hc,hd,hs,hz,r⟩
 ·obtain⟨z,its,n,r,e⟩:=h.ok I.hok
  exact⟨its,r,⟨_,n,e,rfl,rfl,rfl⟩,z⟩
 ·refine⟨its.toList,r,⟨o,n,I.kIn a o hk,hc,hd,by simpa using hs⟩,?_⟩
  have e:=r.length
  simp only[Array.length_toList] at e
  omega
theorem Inv.tuple (I:Inv X pins σ H s) (h:SqT X.K H a xs):∃its:List Value,Vals xs its/\IsTup s.heap a its.toArray/\xs.length<=sizeLine:=by
 rcases h with h | ⟨o,its,n,hk,hc,hs,hz,r⟩
 ·obtain⟨z,its,r,p⟩:=h.ok I.hok
  exact⟨its,r,p.tup,z⟩
 ·refine⟨its.toList,r,⟨o,I.kIn a o hk,hc,n,by simpa using hs⟩,?_⟩
  have e:=r.length
  simp only[Array.length_toList] at e
  omega
theorem Inv.jW (I:Inv X pins σ H s) (h:SqL X.K H a xs) (h':SqL X.K H a ys):xs=ys:=by
 obtain⟨its,r,⟨o,n,e,_,_,d⟩,_⟩:=I.list h
 obtain⟨its',r',⟨o',n',e',_,_,d'⟩,_⟩:=I.list h'
 rw[e] at e';cases e'
 rw[d] at d'
 injection d' with d1 _
 have:its=its':=by simpa using congrArg Array.toList d1
 subst this
 exact r.inj r'
theorem Inv.lL (I:Inv X pins σ H s) (h:SqT X.K H a xs) (h':SqT X.K H a ys):xs=ys:=by
 obtain⟨its,r,⟨o,e,_,n,d⟩,_⟩:=I.tuple h
 obtain⟨its',r',⟨o',e',_,n',d'⟩,_⟩:=I.tuple h'
 rw[e] at e';cases e'
 rw[d] at d'
 injection d' with d1 _
 have:its=its':=by simpa using congrArg Array.toList d1
 subst this
 exact r.inj r'
end
noncomputable abbrev Cx.iy (X:Cx) (E:Value->Shared->Prop):Cx:={ X with xe:=E }
noncomputable abbrev Cx.nox (X:Cx):Cx:=X.iy fun _ _=>False
theorem Cx.Ok.iy {X:Cx} (ok:X.Ok) (E:Value->Shared->Prop):(X.iy E).Ok:=
 ⟨ok.mod,ok.kind,ok.glob,ok.blt,ok.above,ok.inj,ok.has,ok.cab,ok.hd,ok.frames,ok.stk,ok.exf,ok.bs,ok.bsz,ok.nP,ok.oY,ok.fX,ok.frf⟩
theorem Cx.Ok.dI {X:Cx} {E:Value->Shared->Prop} (ok:(X.iy E).Ok):X.Ok:=
 ⟨ok.mod,ok.kind,ok.glob,ok.blt,ok.above,ok.inj,ok.has,ok.cab,ok.hd,ok.frames,ok.stk,ok.exf,ok.bs,ok.bsz,ok.nP,ok.oY,ok.fX,ok.frf⟩
section
variable {X:Cx} {pins:List (Addr × Obj)} {σ:St} {H:Hp} {s:Shared} {E:Value->Shared->Prop}
theorem Inv.iy (I:Inv X pins σ H s) (E:Value->Shared->Prop):Inv (X.iy E) pins σ H s:=⟨I.ok.iy E,I.os,I.bare,I.base,I.loc,I.cell,I.free,I.cD,I.pin,I.hok,I.len⟩
theorem Inv.dI (I:Inv (X.iy E) pins σ H s):Inv X pins σ H s:=⟨I.ok.dI,I.os,I.bare,I.base,I.loc,I.cell,I.free,I.cD,I.pin,I.hok,I.len⟩
theorem SP.dI {D:Ends} {f:Flow} {s':Shared} (h:SP (X.iy E) pins D f s'):SP X pins D f s':=by
 cases f with
 | next=>obtain⟨σ',H',I,q⟩:=h;exact⟨σ',H',I.dI,q⟩
 | brk=>obtain⟨σ',H',I,q⟩:=h;exact⟨σ',H',I.dI,q⟩
 | cont=>obtain⟨σ',H',I,q⟩:=h;exact⟨σ',H',I.dI,q⟩
 | ret u=>obtain⟨v,σ',H',I,r,q⟩:=h;exact⟨v,σ',H',I.dI,r,q⟩
theorem PE.nox {e:Expr} {t:TE} (h:PE X.nox e t):PE X e t:=fun pins s σ H Q I hw=>
 wpAny_mono (h pins s σ H Q (I.iy _) hw) (fun _ _ ⟨v,H',I',r,q⟩=>⟨v,H',I'.dI,r,q⟩) fun _ _ z=>False.elim z
theorem PT.nox {e:Expr} {t:TT} (h:PT X.nox e t):PT X e t:=fun pins s σ H Q I hw=>
 wpAny_mono (h pins s σ H Q (I.iy _) hw) (fun _ _ ⟨H',I',q⟩=>⟨H',I'.dI,q⟩) fun _ _ z=>False.elim z
theorem PSs.nox {st:List Stmt} {t:TS} (h:PSs X.nox st t):PSs X st t:=fun pins s σ H D I hw=>
 wpAny_mono (h pins s σ H D (I.iy _) hw) (fun _ _ q=>q.dI) fun _ _ z=>False.elim z
end
section
variable {X:Cx} {st:Stmt} {rest:List Stmt} {t u:TS} {e:Expr} {te:TE} {pos:Pos}
noncomputable def Cb:TS:=fun D σ H=>D.nx σ H
noncomputable def D_ (t u:TS):TS:=fun D σ H=>t { D with nx:=u D } σ H
theorem xW:PSs X [] Cb:=fun _ _ σ H _ I h=>wpAny_execs_nil ⟨σ,H,I,h⟩
theorem uL (h1:PS X st t) (h2:PSs X rest u):PSs X (st::rest) (D_ t u):=by
 intro pins s σ H D I h
 refine wpAny_execs_cons (thn (h1 pins s σ H { D with nx:=u D } I h) fun f s1 q=>?_)
 cases f with
 | next=>
  obtain⟨σ',H',I',q⟩:=q
  exact h2 pins s1 σ' H' D I' q
 | ret v=>exact q
 | brk=>exact q
 | cont=>exact q
theorem rJ (h1:PS X st t):PSs X [st] t:=by
 intro pins s σ H D I h
 refine wpAny_execs_cons (thn (h1 pins s σ H D I h) fun f s1 q=>?_)
 cases f with
 | next=>exact wpAny_execs_nil q
 | ret v=>exact q
 | brk=>exact q
 | cont=>exact q
theorem Inv.quiet {pins:List (Addr × Obj)} {σ:St} {H:Hp} {s:Shared} (I:Inv X pins σ H s):interactive X.env=false:=by simp[interactive,I.ok.kind]
noncomputable def Cd (te:TE):TS:=fun D σ H=>te σ H fun _ H1=>D.nx σ H1
theorem yL (he:PE X e te) (hs:swapsWith e none pos.line X.env=pure false:=by rfl):PS X (.Expr e pos) (Cd te):=by
 intro pins s σ H D I h
 exact wpAny_Expr_any (thn (he pins s σ H _ I h) fun v s1 ⟨x,H1,I1,r1,q1⟩=>⟨σ,H1,I1,q1⟩) I.quiet hs
noncomputable def Ec (te:TE):TS:=fun D σ H=>te σ H D.rt
theorem vV (he:PE X e te):PS X (.Return (some e) pos) (Ec te):=by
 intro pins s σ H D I h
 exact wpAny_Return_some (thn (he pins s σ H _ I h) fun v s1 ⟨x,H1,I1,r1,q1⟩=>⟨x,σ,H1,I1,r1,q1⟩)
noncomputable def Ek (c:TT) (t u:TS):TS:=fun D σ H=>c σ H fun b H1=>if b=true then t D σ H1 else u D σ H1
theorem C5 {c:Expr} {a b:List Stmt} {tc:TT} (hc:PT X c tc) (ha:PSs X a t) (hb:PSs X b u):PS X (.If c a b pos) (Ek tc t u):=by
 intro pins s σ H D I h
 refine wpAny_If (thn (hc pins s σ H _ I h) fun d s1 ⟨H1,I1,q1⟩=>?_)
 cases d with
 | true=>exact ha pins s1 σ H1 D I1 q1
 | false=>exact hb pins s1 σ H1 D I1 q1
end
noncomputable abbrev TG:=V->St->Hp->(St->Hp->Prop)->Prop
noncomputable abbrev TGs:=List V->St->Hp->(St->Hp->Prop)->Prop
noncomputable def PG (X:Cx) (target:Expr) (t:TG):Prop:=
 ∀(pins:List (Addr × Obj)) (s:Shared) (σ:St) (H:Hp) (v:V) (u:Value) (Q:St->Hp->Prop),Inv X pins σ H s->RelV v u->t v σ H Q →
  wpAny (model X.prog X.w) X.A (assign target X.env u) (fun _ s'=>∃σ' H',Inv X pins σ' H' s'/\Q σ' H') X.xe s
noncomputable def PGs (X:Cx) (ts:List Expr) (t:TGs):Prop:=
 ∀(pins:List (Addr × Obj)) (s:Shared) (σ:St) (H:Hp) (vs:List V) (us:List Value) (Q:St->Hp->Prop),Inv X pins σ H s->Vals vs us->t vs σ H Q →
  wpAny (model X.prog X.w) X.A (assignInOrder ((assignEach ts X.env).map (·.2)) us) (fun _ s'=>∃σ' H',Inv X pins σ' H' s'/\Q σ' H') X.xe s
noncomputable abbrev v9:=V->V->V->Hp->(Hp->Prop)->Prop
noncomputable def BD (X:Cx) (t:v9):Prop:=
 ∀(pins:List (Addr × Obj)) (s:Shared) (σ:St) (H:Hp) (o i v:V) (ov iv u:Value) (Q:Hp->Prop),Inv X pins σ H s->RelV o ov->RelV i iv->RelV v u->t o i v H Q →
  wpAny (model X.prog X.w) X.A (setItem ov iv u) (fun _ s'=>∃H',Inv X pins σ H' s'/\Q H') X.xe s
section
variable {X:Cx} {pos:Pos}
noncomputable def h9 (i:Nat):TG:=fun v σ H Q=>Q (σ.set i (some v)) H
theorem cV {i:Nat} {x:Str} (hN:X.N.Nodup) (hi:X.N[i]?=some x) (hx:Loc X.env.scope x) (hf:X.fn x=true\/X.env.scope.names.lookup x=some .local:=by first | exact .inl rfl | exact .inr rfl | assumption):PG X (.Name x pos) (h9 i):=by
 intro pins s σ H v u Q I r h
 exact wpAny_assign_Name (eC I hN hi hx r (fun s' I'=>⟨_,H,I',h⟩) hf)
noncomputable def DA:TGs:=fun vs σ H Q=>vs=[]/\Q σ H
noncomputable def vF (t:TG) (u:TGs):TGs:=fun vs σ H Q=>∃v r,vs=v::r/\t v σ H fun σ' H'=>u r σ' H' Q
theorem zd:PGs X [] DA:=by
 intro pins s σ H vs us Q I r h
 obtain⟨e,h⟩:=h
 subst e
 cases r
 exact assignInOrder_nil ⟨σ,H,I,h⟩
theorem pG {e:Expr} {es:List Expr} {t:TG} {u:TGs} (h1:PG X e t) (h2:PGs X es u)
  (hs:(assignEach (e::es) X.env).map (·.2)=assign e X.env::(assignEach es X.env).map (·.2):=by rfl):PGs X (e::es) (vF t u):=by
 intro pins s σ H vs us Q I r h
 obtain⟨v,vr,e1,h⟩:=h
 subst e1
 cases r with
 | cons r rr=>
  rw[hs]
  refine assignInOrder_cons (thn (h1 pins s σ H _ _ _ I r h) fun _ s1 ⟨σ1,H1,I1,q1⟩=>?_)
  exact h2 pins s1 σ1 H1 _ _ Q I1 rr q1
noncomputable def CY (K:PySem.W.Frag) (n:Nat) (t:TGs):TG:=fun v σ H Q=>∃a xs,v=.ref a/\SqT K H a xs/\xs.length=n/\t xs σ H Q
theorem zV {es:List Expr} {k:Nat} {t:TGs} {n:Nat} (hc:X.calm=true) (h:PGs X es t)
  (hn:(assignEach es X.env).length=n:=by rfl) (hst:(assignEach es X.env).findIdx? (·.1)=none:=by rfl):PG X (.Tuple es k pos) (CY X.K n t):=by
 intro pins s σ H v u Q I r hw
 obtain⟨a,xs,e1,hq,hl,hw⟩:=hw
 subst e1
 cases r
 obtain⟨its,rv,ht,hz⟩:=I.tuple hq
 refine assign_Tuple_tuple (I.ok.hd hc) ht (by simp[hn,<- hl,rv.length]) hst fun h' hx=>?_
 have I1:Inv X pins σ H { s with heap:=h' }:=I.kept (t':=s.toks) fun b o e=>hx b o (Nat.ne_of_lt (Heap.lt_size e)) e
 exact h pins _ σ H xs _ Q I1 (by simpa using rv) hw
noncomputable def Ex (to ti:TE) (t:v9):TG:=fun v σ H Q=>to σ H fun o H1=>ti σ H1 fun i H2=>t o i v H2 fun H3=>Q σ H3
theorem Ae {o i:Expr} {to ti:TE} {t:v9} (ho:PE X o to) (hi:PE X i ti) (hs:BD X t)
  (ha:∀v,assign (.Subscript o i pos) X.env v=(do
   let ov ← holding [v] (eval o X.env)
   let iv ← holding [v,ov] (eval i X.env)
   standAt pos
   holding [v,ov,iv] (setItem ov iv v)
   release [v,ov,iv] []):=by intro _;rfl):PG X (.Subscript o i pos) (Ex to ti t):=by
 intro pins s σ H v u Q I r h
 rw[ha]
 refine wpAny_bind (wpAny_holding (thn (ho pins s σ H _ I h) fun ov s1 ⟨x,H1,I1,r1,q1⟩=>?_))
 refine wpAny_bind (wpAny_holding (thn (hi pins s1 σ H1 _ I1 q1) fun iv s2 ⟨y,H2,I2,r2,q2⟩=>?_))
 refine wpAny_bind (wpAny_standAt (wpAny_bind (wpAny_holding (thn (hs pins s2 σ H2 x y v ov iv u _ I2 r1 r2 r q2) fun _ s3 ⟨H3,I3,q3⟩=>?_))))
 exact wpAny_release ⟨σ,H3,I3,q3⟩
noncomputable def AZ (te:TE) (g:TG):TS:=fun D σ H=>te σ H fun x H1=>g x σ H1 D.nx
theorem AL {tg e:Expr} {te:TE} {g:TG} (he:PE X e te) (hg:PG X tg g) (hs:swapsWithSole [tg] e pos.line X.env=pure false:=by rfl) (hw:swappedStores [tg] e X.env=pure none:=by rfl)
  (h1:(assignEach [tg] X.env).map (·.2)=[assign tg X.env]:=by rfl):PS X (.Assign [tg] e pos) (AZ te g):=by
 intro pins s σ H D I h
 refine wpAny_Assign_stores (thn (he pins s σ H _ I h) fun v s1 ⟨x,H1,I1,r1,q1⟩=>?_) hs hw
 rw[h1]
 exact thn (hg pins s1 σ H1 x v _ I1 r1 q1) fun _ s2 q=>q
theorem BL {i:Nat} {x:Str} {e:Expr} {te:TE} {pos':Pos} (hN:X.N.Nodup) (hi:X.N[i]?=some x) (hx:Loc X.env.scope x) (he:PE X e te) (hs:swapsWith e (some (.Name x pos')) pos.line X.env=pure false:=by rfl) (hf:X.fn x=true\/X.env.scope.names.lookup x=some .local:=by first | exact .inl rfl | exact .inr rfl | assumption) :
  PS X (.Assign [.Name x pos'] e pos) (AZ te (h9 i)):=by
 intro pins s σ H D I h
 refine wpAny_Assign_Name (thn (he pins s σ H _ I h) fun v s1 ⟨y,H1,I1,r1,q1⟩=>?_) hs
 exact eC I1 hN hi hx r1 (fun s2 I2=>⟨_,H1,I2,q1⟩) hf
noncomputable def D1 (i j:Nat) (ta:TA):TS:=fun D σ H=>ta σ H fun vs H1=>∃v w,vs=[v,w]/\D.nx ((σ.set i (some v)).set j (some w)) H1
theorem AX {i j:Nat} {x y:Str} {a b:Expr} {ta:TA} {px py pt:Pos} {kt k2 pt2} (hc:X.calm=true) (hN:X.N.Nodup) (hi:X.N[i]?=some x) (hj:X.N[j]?=some y) (hij:i≠j)
  (hx:X.env.scope.names.lookup x=some .local) (hy:X.env.scope.names.lookup y=some .local) (ha:PA X [a,b] ta)
  (hw:swappedStores [.Tuple [.Name x px,.Name y py] kt pt] (.Tuple [a,b] k2 pt2) X.env=pure (some [x,y]))
  (hs:swapsWithSole [.Tuple [.Name x px,.Name y py] kt pt] (.Tuple [a,b] k2 pt2) pos.line X.env=pure false:=by rfl) :
  PS X (.Assign [.Tuple [.Name x px,.Name y py] kt pt] (.Tuple [a,b] k2 pt2) pos) (D1 i j ta):=by
 intro pins s σ H D I h
 rw[exec_Assign_arm]
 refine wpAny_bind (wpAny_standAt ?_)
 rw[hs]
 refine wpAny_bind (wpAny_pure ?_)
 rw[if_neg (by decide)]
 refine wpAny_bind (Tuple_ (thn (ha _ pins s σ H _ I h) fun us s1 ⟨vs,H1,I1,r1,q1⟩=>?_))
 obtain⟨v,w,e1,q1⟩:=q1
 subst e1
 obtain⟨u1,u2,rfl,rv,rw'⟩:∃u1 u2,us=[u1,u2]/\RelV v u1/\RelV w u2:=by
  cases r1 with
  | cons p q=>
   cases q with
   | cons p' q'=>
    cases q'
    exact⟨_,_,rfl,p,p'⟩
 refine wpAny_newObj_type ?_ (by show 2<=sizeLine;decide)
 have I2:Inv X pins σ H1 { s1 with heap:=s1.heap.push { cls:=.type "tuple", data:=.seq [u1,u2].toArray } }:=I1.kept (t':=s1.toks) fun b o e=>Heap.get?_push_of_some _ e
 rw[hw]
 refine wpAny_bind (wpAny_pure ?_)
 show wpAny (model X.prog X.w) X.A (do rule "assign.swapped-stores"; let items ← unpackItems (.ref s1.heap.objs.size) 2 none;assignInOrder [fun v=>bindName X.env y v,fun v=>bindName X.env x v] items.reverse;pure Flow.next) _ _ _
 refine wpAny_bind (wpAny_rule (wpAny_bind (unpackItems_tuple (items:=#[u1,u2]) (I.ok.hd hc) (IsTup.new s1.heap _) fun h' hx'=>?_)))
 have I3:=I2.kept (h':=h') (t':=s1.toks) fun b o e=>hx' b o (Nat.ne_of_lt (Heap.lt_size e)) e
 show wpAny _ _ (assignInOrder [fun v=>bindName X.env y v,fun v=>bindName X.env x v] [u2,u1] >>= fun _=>pure Flow.next) _ _ _
 refine wpAny_bind (assignInOrder_cons (wpAny_bindName (eC I3 hN hj (.inl hy) rw' (fun s2 I4=>?_) (.inr hy))))
 refine assignInOrder_cons (wpAny_bindName (eC I4 hN hi (.inl hx) rv (fun s3 I5=>assignInOrder_nil (wpAny_pure ?_)) (.inr hx)))
 rw[List.set_comm _ _ (Ne.symm hij)] at I5
 exact⟨_,H1,I5,q1⟩
end
structure It where
 go:Nat->Hp->Prop
 yld:Nat->Hp->V->Hp->Prop
 stop:Nat->Hp->Prop
noncomputable def lr (X:Cx) (pins:List (Addr × Obj)) (H:Hp) (b:Addr):Prop:=
 H b=none/\b≠X.env.locals/\b∉X.fs/\(b∈X.ex\/X.aH.heap.objs.size<=b)/\(∀x c,X.env.cells.lookup x=some c->c≠b)/\∀p∈X.pn++pins,p.1≠b
theorem Inv.wB {X:Cx} {pins:List (Addr × Obj)} {σ:St} {H H':Hp} {s:Shared} {b:Addr} (I:Inv X pins σ H s) (hb:s.heap.objs.size<=b) (hn:H' b=none):lr X pins H' b:=by
 refine⟨hn,Nat.ne_of_gt (Nat.lt_of_lt_of_le I.lt hb),I.Cw hb,.inr (Nat.le_trans I.sz hb),fun x c e z=>?_,fun p hp z=>?_⟩
 ·obtain⟨v,q⟩:=I.cell x c e
  exact absurd (Nat.lt_of_lt_of_le q.lt (by rw[z];exact hb)) (Nat.lt_irrefl _)
 ·exact absurd (Nat.lt_of_lt_of_le (Heap.lt_size (I.pin p hp).1) (by rw[z];exact hb)) (Nat.lt_irrefl _)
structure Turn (P:Program) (w:World) (K:PySem.W.Frag) (tg:Expr) (J:It) (fp:List Addr) (it:Addr) (tn:Nat->Heap->Prop):Prop where
 mem:it∈fp
 obj:∀i h,tn i h->∀b∈fp,∃o,h.get? b=some o/\∀v,o.data≠.cell v
 keep:∀i h h',tn i h->(∀b∈fp,∀o,h.get? b=some o->h'.get? b=some o)->tn i h'
 item:∀(X:Cx),X.prog=P->X.w=w->X.K=K->X.calm=true->∀(i:Nat) (pins:List (Addr × Obj)) (s:Shared) (σ:St) (H:Hp) (E:Value->Shared->Prop),Inv X pins σ H s->(∀b∈fp,lr X pins H b)->tn i s.heap->J.go i H →
  wpAny (model P w) X.A (pyNext (.ref it)) (fun r s1=>∃u,r=some u ∧
   wpAny (model P w) X.A (letOwnedTupleGo tg (.ref it) u) (fun _ s2=>∃x H',Inv X pins σ H' s2/\RelV x u/\J.yld i H x H'/\tn (i+1) s2.heap/\∀b∈fp,H' b=none) E s1) E s
 done:∀(X:Cx),X.prog=P->X.w=w->X.K=K->X.calm=true->∀(i:Nat) (pins:List (Addr × Obj)) (s:Shared) (σ:St) (H:Hp) (E:Value->Shared->Prop),Inv X pins σ H s->(∀b∈fp,lr X pins H b)->tn i s.heap->J.stop i H →
  wpAny (model P w) X.A (pyNext (.ref it)) (fun r s1=>r=none/\Inv X pins σ H s1) E s
 self:∀(A:Around) (i:Nat) (s:Shared) (Q:Value->Shared->Prop) (E:Value->Shared->Prop),tn i s.heap->Q (.ref it) s->wpAny (model P w) A (pyIter (.ref it)) Q E s
noncomputable abbrev TI:=St->Hp->(It->Hp->Prop)->Prop
noncomputable def PIE (X:Cx) (pins:List (Addr × Obj)) (σ:St) (tg:Expr) (R:It->Hp->Prop) (itv:Value) (s2:Shared):Prop:=
 ∃(it:Addr) (fp:List Addr) (tn:Nat->Heap->Prop) (J:It) (H':Hp),itv=.ref it/\Inv X pins σ H' s2/\Turn X.prog X.w X.K tg J fp it tn/\tn 0 s2.heap/\(∀b∈fp,lr X pins H' b)/\R J H'
noncomputable def PI (X:Cx) (tg iter:Expr) (wi:TI):Prop:=
 ∀(pins:List (Addr × Obj)) (s:Shared) (σ:St) (H:Hp) (R:It->Hp->Prop),Inv X pins σ H s->wi σ H R →
  wpAny (model X.prog X.w) X.A (eval iter X.env) (fun v s1=>wpAny (model X.prog X.w) X.A (pyIter v) (PIE X pins σ tg R) X.xe s1) X.xe s
theorem rX {M:Model} {A:Around} {E:Value->Shared->Prop} {s:Shared} {tg:Expr} {it:Addr} {u:Value} {o:Obj} {n:String} {vs:Array Value} {Q:Unit->Shared->Prop} (ho:s.heap.get? it=some o) (hc:o.cls=.type n) (hd:o.data=.fields vs)
  (hn:["enumerate", "zip", "dict_itemiterator", "dict_reverseitemiterator", "odict_iterator", "itertools.zip_longest", "itertools.pairwise"].contains n=false) (hQ:Q () s):wpAny M A (letOwnedTupleGo tg (.ref it) u) Q E s:=by
 unfold letOwnedTupleGo
 cases tg<;>first
  | exact wpAny_pure hQ
  | (cases u<;>first
    | exact wpAny_pure hQ
    | (refine wpAny_bind (wpAny_load ho ?_)
       rw[hc,hd]
       show wpAny M A (if (["enumerate", "zip", "dict_itemiterator", "dict_reverseitemiterator", "odict_iterator", "itertools.zip_longest", "itertools.pairwise"].contains n&&vs[0]? == some (rawInt _))=true then _ else _) Q E s
       rw[if_neg (by intro h;rw[hn,Bool.false_and] at h;cases h)]
       exact wpAny_pure hQ))
noncomputable def Itl (K:PySem.W.Frag) (a:Addr):It:=
 ⟨fun i H=>∃xs x,SqL K H a xs/\xs[i]?=some x,fun i H x H'=>H'=H/\∀xs,SqL K H a xs->xs[i]?=some x,fun i H=>∃xs,SqL K H a xs/\xs.length<=i⟩
noncomputable def Itt (K:PySem.W.Frag) (a:Addr):It:=
 ⟨fun i H=>∃xs x,SqT K H a xs/\xs[i]?=some x,fun i H x H'=>H'=H/\∀xs,SqT K H a xs->xs[i]?=some x,fun i H=>∃xs,SqT K H a xs/\xs.length<=i⟩
noncomputable def Itr (lo:Int) (n:Nat):It:=⟨fun i _=>i<n,fun i H x H'=>H'=H/\x=.int (lo+i),fun i _=>n<=i⟩
theorem uh {P:Program} {w:World} {K:PySem.W.Frag} {tg:Expr} (a it:Addr):Turn P w K tg (Itl K a) [it] it (fun i h=>h.IsListIter it a i) where
 mem:=by simp
 obj:=fun i h st b hb=>by
  have e:b=it:=by simpa using hb
  subst e
  obtain⟨o,e,c,d⟩:=st
  exact⟨o,e,fun v z=>by rw[d] at z;cases z⟩
 keep:=fun i h h' st k=>st.at fun o e=>k it (by simp) o e
 item:=by
  intro X hP hw hK hc i pins s σ H E I hf st hg
  subst hP hw hK
  obtain⟨xs,x,hq,hx⟩:=hg
  obtain⟨its,rv,p,hz⟩:=I.list hq
  obtain⟨u,hu,ru⟩:=rv.get hx
  obtain⟨f0,f1,f2,f3,f4,f5⟩:=hf it (by simp)
  refine wpAny_pyNext_list_item st p.isList (x:=u) (by simpa using hu) fun h' st' sb=>?_
  have I1:Inv X pins σ H { s with heap:=h' }:=I.turned (t':=s.toks) (fun b o hb e=>(sb.2 b hb).trans e) f0 f1 f3 f4 f5
  obtain⟨o,e,c,d⟩:=id st'
  exact⟨u,rfl,rX (s:={ s with heap:=h' }) e c d (by decide) ⟨x,H,I1,ru,⟨rfl,fun ys hy=>by rw[I.jW hy hq];exact hx⟩,st',fun b hb=>(hf b hb).1⟩⟩
 done:=by
  intro X hP hw hK hc i pins s σ H E I hf st hg
  subst hP hw hK
  obtain⟨xs,hq,hx⟩:=hg
  obtain⟨its,rv,p,hz⟩:=I.list hq
  obtain⟨f0,f1,f2,f3,f4,f5⟩:=hf it (by simp)
  have hl:=rv.length
  exact wpAny_pyNext_list_end (I.ok.hd hc) st p.isList (by simp;omega) fun h' eb=>⟨rfl,I.turned (t':=s.toks) (fun b o hb e=>eb b o hb e) f0 f1 f3 f4 f5⟩
 self:=fun _ _ _ _ _ st h=>wpAny_pyIter_listiter st h
theorem qt {P:Program} {w:World} {K:PySem.W.Frag} {tg:Expr} (a it:Addr):Turn P w K tg (Itt K a) [it] it (fun i h=>h.IsTupleIter it a i) where
 mem:=by simp
 obj:=fun i h st b hb=>by
  have e:b=it:=by simpa using hb
  subst e
  obtain⟨o,e,c,d⟩:=st
  exact⟨o,e,fun v z=>by rw[d] at z;cases z⟩
 keep:=fun i h h' st k=>st.at fun o e=>k it (by simp) o e
 item:=by
  intro X hP hw hK hc i pins s σ H E I hf st hg
  subst hP hw hK
  obtain⟨xs,x,hq,hx⟩:=hg
  obtain⟨its,rv,p,hz⟩:=I.tuple hq
  obtain⟨u,hu,ru⟩:=rv.get hx
  obtain⟨f0,f1,f2,f3,f4,f5⟩:=hf it (by simp)
  refine wpAny_pyNext_tuple_item st (show s.heap.IsTuple a its.toArray from p) (x:=u) (by simpa using hu) fun h' st' sb=>?_
  have I1:Inv X pins σ H { s with heap:=h' }:=I.turned (t':=s.toks) (fun b o hb e=>(sb.2 b hb).trans e) f0 f1 f3 f4 f5
  obtain⟨o,e,c,d⟩:=id st'
  exact⟨u,rfl,rX (s:={ s with heap:=h' }) e c d (by decide) ⟨x,H,I1,ru,⟨rfl,fun ys hy=>by rw[I.lL hy hq];exact hx⟩,st',fun b hb=>(hf b hb).1⟩⟩
 done:=by
  intro X hP hw hK hc i pins s σ H E I hf st hg
  subst hP hw hK
  obtain⟨xs,hq,hx⟩:=hg
  obtain⟨its,rv,p,hz⟩:=I.tuple hq
  obtain⟨f0,f1,f2,f3,f4,f5⟩:=hf it (by simp)
  have hl:=rv.length
  exact wpAny_pyNext_tuple_end (I.ok.hd hc) st (show s.heap.IsTuple a its.toArray from p) (by simp;omega) fun h' eb=>⟨rfl,I.turned (t':=s.toks) (fun b o hb e=>eb b o hb e) f0 f1 f3 f4 f5⟩
 self:=fun _ _ _ _ _ st h=>wpAny_pyIter_tupleiter st h
theorem qz {P:Program} {w:World} {K:PySem.W.Frag} {tg:Expr} (it:Addr) (lo:Int) (n:Nat):Turn P w K tg (Itr lo n) [it] it (fun i h=>IsRangeIter h it (lo+(i:Nat)*1) ((n:Int) - (i:Nat)) 1) where
 mem:=by simp
 obj:=fun i h st b hb=>by
  have e:b=it:=by simpa using hb
  subst e
  exact⟨_,st,fun v z=>by
   have z':Data.fields _=Data.cell v:=z
   cases z'⟩
 keep:=fun i h h' st k=>k it (by simp) _ st
 item:=by
  intro X hP hw hK hc i pins s σ H E I hf st hg
  subst hP hw hK
  obtain⟨f0,f1,f2,f3,f4,f5⟩:=hf it (by simp)
  have W:=Walks.range (prog:=X.prog) (w:=X.w) (I.ok.hd hc) it lo 1 n
  refine W.item i s _ _ hg st fun v h' tk hv st' kk=>?_
  obtain⟨t,rfl⟩:=hv
  have I1:Inv X pins σ H { s with heap:=h',toks:=tk }:=I.turned (fun b o hb e=>kk b o (by simpa using hb) e) f0 f1 f3 f4 f5
  refine⟨_,rfl,rX (s:={ s with heap:=h',toks:=tk }) (n:="range_iterator") st' rfl rfl (by decide) ⟨.int (lo+i),H,I1,⟨t,?_⟩,⟨rfl,rfl⟩,st',fun b hb=>(hf b hb).1⟩⟩
  rw[Int.mul_one]
 done:=by
  intro X hP hw hK hc i pins s σ H E I hf st hg
  subst hP hw hK
  obtain⟨f0,f1,f2,f3,f4,f5⟩:=hf it (by simp)
  exact wpAny_pyNext_range_end (I.ok.hd hc) st (by have:n<=i:=hg;omega) fun h' eb=>⟨rfl,I.turned (t':=s.toks) (fun b o hb e=>eb b o hb e) f0 f1 f3 f4 f5⟩
 self:=fun _ _ _ _ _ st h=>wpAny_pyIter_rangeiter st h
section
variable {X:Cx} {tg:Expr}
theorem uU {pins:List (Addr × Obj)} {σ:St} {H:Hp} {s:Shared} {R:It->Hp->Prop} {E:Value->Shared->Prop} {lo hi:Int} {t u v:Tok} {tk:Nat} (I:Inv X pins σ H s) (h1:-(2 ^ 62)<=lo) (h2:lo<2 ^ 62) (h3:-(2 ^ 62)<=hi) (h4:hi<2 ^ 62)
  (q:R (Itr lo (hi - lo).toNat) H):wpAny (model X.prog X.w) X.A (pyIter (.ref s.heap.objs.size)) (PIE X pins σ tg R) E { s with heap:=s.heap.push { cls:=.type "range", data:=.fields #[.int lo t,.int hi u,.int 1 v] },toks:=tk }:=by
 refine wpAny_pyIter_range (IsRange.new ..) (small_one h1 h2 h3 h4) ?_
 have I1:Inv X pins σ H { s with heap:=s.heap.push { cls:=.type "range", data:=.fields #[.int lo t,.int hi u,.int 1 v] },toks:=tk }:=I.kept fun b o e=>Heap.get?_push_of_some _ e
 refine⟨(s.heap.push { cls:=.type "range", data:=.fields #[.int lo t,.int hi u,.int 1 v] }).objs.size,[(s.heap.push { cls:=.type "range", data:=.fields #[.int lo t,.int hi u,.int 1 v] }).objs.size],_,_,H,rfl,
  I1.kept (t':=tk) fun b o e=>Heap.get?_push_of_some _ e,qz _ lo (hi - lo).toNat,?_,fun b hb=>?_,q⟩
 ·have e1:lo+((0:Nat):Int)*1=lo:=by simp
  have e2:(((hi - lo).toNat:Nat):Int) - ((0:Nat):Int)=Builtin.Range.rangeSize lo hi 1:=by rw[rangeSize_one];split<;>omega
  show IsRangeIter _ _ (lo+((0:Nat):Int)*1) ((((hi - lo).toNat:Nat):Int) - ((0:Nat):Int)) 1
  rw[e1,e2]
  exact Heap.get?_push_size _ rfl
 ·have e:b=(s.heap.push { cls:=.type "range", data:=.fields #[.int lo t,.int hi u,.int 1 v] }).objs.size:=by simpa using hb
  subst e
  exact I1.wB (Nat.le_refl _) (I1.hok.fresh (Nat.le_refl _))
noncomputable def Cv (ta:TA):TI:=fun σ H R=>ta σ H fun vs H1=>∃j:Int,vs=[.int j]/\-(2 ^ 62)<=j/\j<2 ^ 62/\R (Itr 0 j.toNat) H1
theorem ui {a:Expr} {ta:TA} {p pos:Pos} (hg:Gl X "range") (hm:X.mg "range" = none) (ha:PA X [a] ta) (hs:starEach [a] X.env=[(false,eval a X.env)]:=by rfl):PI X tg (.Call (.Name "range" p) [a] [] pos) (Cv ta):=by
 intro pins s σ H R I h
 refine Call_ (kL I hg hm boot_range (PyProof.Rows.callWith_type1 (thn (ha pos pins s σ H _ I h) fun us s1 ⟨vs,H1,I1,r1,q1⟩=>?_) hs rfl))
 obtain⟨j,e,q1,q2,q⟩:=q1
 subst e
 cases r1 with
 | cons r rr=>
  cases rr
  obtain⟨t,rfl⟩:=r
  exact call_range_1 (uU I1 (by omega) (by omega) q1 q2 (by simpa using q))
noncomputable def Ej (wi:TI) (g:TG) (tb:TS):TS:=fun D σ H=>wi σ H fun J H1=>∃W:Nat->Nat->St->Hp->Prop,(∃m,W 0 m σ H1)/\∀i m σ H,W i m σ H →
 (J.stop i H/\D.nx σ H)\/(J.go i H/\∃N:St->Hp->Prop,(∀σ' H',N σ' H'->∃m',m'<m/\W (i+1) m' σ' H')/\∀x H',J.yld i H x H'->g x σ H' fun σ2 H2=>tb { D with nx:=N,ct:=N,bk:=D.nx } σ2 H2)
noncomputable def jV (fp:List Addr) (h:Heap):List (Addr × Obj):=fp.filterMap fun b=>(h.get? b).map fun o=>(b,o)
theorem eM {fp:List Addr} {h:Heap} {b:Addr} {o:Obj} (hb:b∈fp) (e:h.get? b=some o):(b,o)∈jV fp h:=List.mem_filterMap.mpr ⟨b,hb,by rw[e];rfl⟩
theorem tT {fp:List Addr} {h:Heap} {p:Addr × Obj} (hp:p∈jV fp h):p.1∈fp/\h.get? p.1=some p.2:=by
 obtain⟨b,hb,e⟩:=List.mem_filterMap.mp hp
 cases q:h.get? b with
 | none=>rw[q] at e;cases e
 | some o=>
  rw[q] at e
  have e':(b,o)=p:=Option.some.inj e
  subst e'
  exact⟨hb,q⟩
theorem Inv.pinned {pins:List (Addr × Obj)} {σ:St} {H:Hp} {s:Shared} {fp:List Addr} (I:Inv X pins σ H s) (hf:∀b∈fp,lr X pins H b) (ho:∀b∈fp,∃o,s.heap.get? b=some o/\∀v,o.data≠.cell v):Inv X (pins++jV fp s.heap) σ H s:=
 I.jH fun p hp=>(List.mem_append.mp hp).elim (fun z=>I.pin p (List.mem_append_right _ z)) fun z=>by
  obtain⟨hb,e⟩:=tT z
  obtain⟨f0,f1,f2,_⟩:=hf p.1 hb
  obtain⟨o,e',d⟩:=ho p.1 hb
  rw[e] at e';cases e'
  exact⟨e,f0,f1,f2,d⟩
theorem Inv.gT {pins pl:List (Addr × Obj)} {σ:St} {H:Hp} {s:Shared} (I:Inv X (pins++pl) σ H s):Inv X pins σ H s:=I.jH fun p hp=>I.pin p (List.mem_append_right _ (List.mem_append_left _ hp))
theorem Bf {iter:Expr} {body:List Stmt} {wi:TI} {g:TG} {tb:TS} {pos:Pos} (hp:PassesOwn (model X.prog X.w) X.A X.env X.xe) (hc:X.calm=true) (hi:PI X tg iter wi) (hg:PG X tg g) (hb:PSs X body tb)
  (hs:∀x,foldedSetIterable iter X.env x=pure x:=by intro _;rfl):PS X (.For tg iter body [] pos) (Ej wi g tb):=by
 intro pins s σ H D I h
 refine wpAny_For (thn (hi pins s σ H _ I h) fun v s1 h1=>thn h1 fun itv s2 h2=>?_) hs
 obtain⟨it,fp,tn,J,H2,e,I2,T,st2,f2,W,⟨m0,w0⟩,turn⟩:=h2
 subst e
 -- what stays true of the iterator's objects through the loop
 have stat:∀{H':Hp},(∀b∈fp,H' b=none)->∀b∈fp,lr X pins H' b:=fun hn b hb=>⟨hn b hb,(f2 b hb).2⟩
 refine codeAny_forLoop_any (fun n s'=>∃i σ' H',Inv X pins σ' H' s'/\tn i s'.heap/\(∀b∈fp,H' b=none)/\W i n σ' H') ?_ m0 ⟨0,σ,H2,I2,st2,fun b hb=>(f2 b hb).1,w0⟩
 rintro n s3 ⟨i,σ3,H3,I3,st3,fr3,w3⟩
 rcases turn i n σ3 H3 w3 with⟨stop,qn⟩ | ⟨go,N,hN,step⟩
 ·refine wpAny_passesOwn hp (thn (T.done X rfl rfl rfl hc i pins s3 σ3 H3 X.xe I3 (stat fr3) st3 stop) fun r s4 ⟨hr,I4⟩=>?_)
  subst hr
  exact wpAny_execs_nil ⟨σ3,H3,I4,qn⟩
 ·refine wpAny_passesOwn hp (thn (T.item X rfl rfl rfl hc i pins s3 σ3 H3 X.xe I3 (stat fr3) st3 go) fun r s4 ⟨u,hr,h4⟩=>?_)
  subst hr
  refine wpAny_passesOwn hp (thn h4 fun _ s5 ⟨x,H5,I5,r5,y5,st5,fr5⟩=>?_)
  have I5':=I5.pinned (stat fr5) (T.obj _ _ st5)
  refine wpAny_passesOwn hp (thn (hg _ s5 σ3 H5 x u _ I5' r5 (step x H5 y5)) fun _ s6 ⟨σ6,H6,I6,q6⟩=>?_)
  refine wpAny_passesOwn hp (thn (hb _ s6 σ6 H6 _ I6 q6) fun f s7 q7=>?_)
  have again:∀{σ7:St} {H7:Hp},Inv X (pins++jV fp s5.heap) σ7 H7 s7->N σ7 H7->∃m,m<n/\∃i σ' H',Inv X pins σ' H' s7/\tn i s7.heap/\(∀b∈fp,H' b=none)/\W i m σ' H':=fun{σ7 H7} I7 n7=>by
   obtain⟨m',hm,w7⟩:=hN σ7 H7 n7
   refine⟨m',hm,i+1,σ7,H7,I7.gT,T.keep _ _ _ st5 fun b hb o e=>(I7.pin (b,o) (List.mem_append_right _ (List.mem_append_right _ (eM hb e)))).1,fun b hb=>?_,w7⟩
   obtain⟨o,e,d⟩:=T.obj _ _ st5 b hb
   exact(I7.pin (b,o) (List.mem_append_right _ (List.mem_append_right _ (eM hb e)))).2.1
  cases f with
  | next=>obtain⟨σ7,H7,I7,n7⟩:=q7;exact again I7 n7
  | cont=>obtain⟨σ7,H7,I7,n7⟩:=q7;exact again I7 n7
  | brk=>obtain⟨σ7,H7,I7,q7⟩:=q7;exact⟨σ7,H7,I7.gT,q7⟩
  | ret v=>obtain⟨x7,σ7,H7,I7,r7,q7⟩:=q7;exact⟨x7,σ7,H7,I7.gT,r7,q7⟩
end
noncomputable abbrev R2:=V->V->Hp->VK->Prop
noncomputable def OpR (X:Cx) (f:Value->Value->Sem Value) (r:R2):Prop:=
 ∀(pins:List (Addr × Obj)) (s:Shared) (σ:St) (H:Hp) (x y:V) (v u:Value) (Q:VK),Inv X pins σ H s->RelV x v->RelV y u->r x y H Q →
  wpAny (model X.prog X.w) X.A (f v u) (EP X pins σ Q) X.xe s
noncomputable def aR (X:Cx) (f:Value) (r:List V->Hp->VK->Prop):Prop:=
 ∀(pins:List (Addr × Obj)) (s:Shared) (σ:St) (H:Hp) (xs:List V) (us:List Value) (Q:VK),Inv X pins σ H s->Vals xs us->r xs H Q →
  wpAny (model X.prog X.w) X.A (call f us) (EP X pins σ Q) X.xe s
noncomputable def EN (X:Cx) (r:V->Hp->(Bool->Hp->Prop)->Prop):Prop:=
 ∀(pins:List (Addr × Obj)) (s:Shared) (σ:St) (H:Hp) (x:V) (v:Value) (Q:Bool->Hp->Prop),Inv X pins σ H s->RelV x v->r x H Q →
  wpAny (model X.prog X.w) X.A (truthy v) (TP X pins σ Q) X.xe s
noncomputable def tOp (r:R2) (ta tb:TE):TE:=fun σ H Q=>ta σ H fun x H1=>tb σ H1 fun y H2=>r x y H2 Q
noncomputable def rI (C:Int->Int->Prop) (g:Int->Int->V):R2:=fun x y H Q=>∃i j,x=.int i/\y=.int j/\C i j/\Q (g i j) H
noncomputable def rI0 (g:Int->Int->V):R2:=fun x y H Q=>∃i j,x=.int i/\y=.int j/\Q (g i j) H
section
variable {X:Cx} {a b c:Expr} {ta tb tc:TE} {pos:Pos}
theorem AO (ha:PE X a ta) (hb:PE X b tb) {pins:List (Addr × Obj)} {s:Shared} {σ:St} {H:Hp} {R:V->V->Hp->Prop} (I:Inv X pins σ H s)
  (h:ta σ H fun x H1=>tb σ H1 fun y H2=>R x y H2) {Q:Value->Shared->Prop} {f:Value->Value->Sem Value}
  (hf:∀v u s2 x y H2,Inv X pins σ H2 s2->RelV x v->RelV y u->R x y H2->wpAny (model X.prog X.w) X.A (f v u) Q X.xe s2) :
  wpAny (model X.prog X.w) X.A (eval a X.env) (fun v s₁=>wpAny (model X.prog X.w) X.A (eval b X.env) (fun u s₂=>wpAny (model X.prog X.w) X.A (f v u) Q X.xe s₂) X.xe s₁) X.xe s:=by
 refine thn (ha pins s σ H _ I h) fun v s1 ⟨x,H1,I1,r1,q1⟩=>?_
 refine thn (hb pins s1 σ H1 _ I1 q1) fun u s2 ⟨y,H2,I2,r2,q2⟩=>?_
 exact hf v u s2 x y H2 I2 r1 r2 q2
theorem C6 {op:Operator} {r:R2} (ho:OpR X (binaryOp op) r) (ha:PE X a ta) (hb:PE X b tb):PE X (.BinOp a op b pos) (tOp r ta tb):=by
 intro pins s σ H Q I h
 exact wpAny_BinOp (AO ha hb I h fun v u s2 x y H2 I2 rx ry q=>ho pins s2 σ H2 x y v u Q I2 rx ry q)
theorem opI {f:Value->Value->Sem Value} {C:Int->Int->Prop} {g:Int->Int->Int}
  (rule:∀(i j:Int) (t u:Tok) (s:Shared) (Q:Value->Shared->Prop) (E:Value->Shared->Prop),C i j->Q (.int (g i j) s.toks) { s with toks:=s.toks+1 }->wpAny (model X.prog X.w) X.A (f (.int i t) (.int j u)) Q E s) :
  OpR X f (rI C fun i j=>.int (g i j)):=by
 intro pins s σ H x y v u Q I rx ry h
 obtain⟨i,j,rfl,rfl,hc,q⟩:=h
 obtain⟨t,rfl⟩:=rx
 obtain⟨t',rfl⟩:=ry
 exact rule i j t t' s _ _ hc ⟨.int (g i j),H,I.tok _,⟨_,rfl⟩,q⟩
theorem C7 {f:Value->Value->Sem Value} {g:Int->Int->Int}
  (rule:∀(i j:Int) (t u:Tok) (s:Shared) (Q:Value->Shared->Prop) (E:Value->Shared->Prop),Q (.int (g i j) s.toks) { s with toks:=s.toks+1 }->wpAny (model X.prog X.w) X.A (f (.int i t) (.int j u)) Q E s) :
  OpR X f (rI0 fun i j=>.int (g i j)):=by
 intro pins s σ H x y v u Q I rx ry h
 obtain⟨i,j,rfl,rfl,q⟩:=h
 obtain⟨t,rfl⟩:=rx
 obtain⟨t',rfl⟩:=ry
 exact rule i j t t' s _ _ ⟨.int (g i j),H,I.tok _,⟨_,rfl⟩,q⟩
theorem xR {f:Value->Value->Sem Value} {g:Int->Int->Bool}
  (rule:∀(i j:Int) (t u:Tok) (s:Shared) (Q:Value->Shared->Prop) (E:Value->Shared->Prop),Q (.bool (g i j)) s->wpAny (model X.prog X.w) X.A (f (.int i t) (.int j u)) Q E s) :
  OpR X f (rI0 fun i j=>.bl (g i j)):=by
 intro pins s σ H x y v u Q I rx ry h
 obtain⟨i,j,rfl,rfl,q⟩:=h
 obtain⟨t,rfl⟩:=rx
 obtain⟨t',rfl⟩:=ry
 exact rule i j t t' s _ _ ⟨.bl (g i j),H,I,rfl,q⟩
theorem Bw:OpR X (binaryOp .Add) (rI0 fun i j=>.int (i+j)):=C7 fun _ _ _ _ _ _ _ q=>add_int q
theorem vK:OpR X (binaryOp .Sub) (rI0 fun i j=>.int (i - j)):=C7 fun _ _ _ _ _ _ _ q=>sub_int q
theorem jU:OpR X (binaryOp .Mod) (rI (fun _ j=>0<j) fun i j=>.int (i % j)):=opI fun i j _ _ _ _ _ hc q=>by
 have h1:(0:Int)<j:=hc
 exact mod_int' (by omega) (by rw[Int.fmod_eq_emod_of_nonneg i (by omega)];exact q)
end
section
variable {X:Cx} {a b c:Expr} {ta tb tc:TE} {pos:Pos}
theorem C3:OpR X (compareOp .Lt) (rI0 fun i j=>.bl (decide (i<j))):=xR fun _ _ _ _ _ _ _ q=>lt_int q
theorem mx:OpR X (compareOp .LtE) (rI0 fun i j=>.bl (decide (i<=j))):=xR fun _ _ _ _ _ _ _ q=>le_int q
theorem pZ:OpR X (compareOp .Gt) (rI0 fun i j=>.bl (decide (j<i))):=xR fun _ _ _ _ _ _ _ q=>gt_int q
theorem Dp:OpR X (compareOp .GtE) (rI0 fun i j=>.bl (decide (j<=i))):=xR fun _ _ _ _ _ _ _ q=>ge_int q
theorem bG (b:Expr) {op:CmpOp} (h:op≠.In:=by decide) (h2:op≠.NotIn:=by decide):behindInMarks op b=false:=by
 have e1:(op == CmpOp.In)=false:=by cases op<;>first | rfl | exact absurd rfl h
 have e2:(op == CmpOp.NotIn)=false:=by cases op<;>first | rfl | exact absurd rfl h2
 cases b<;>simp[behindInMarks,e1,e2]
theorem yX {op:CmpOp} {r:R2} (ho:OpR X (compareOp op) r) (ha:PE X a ta) (hb:PE X b tb) (hm:behindInMarks op b=false):PE X (.Compare a [op] [b] pos) (tOp r ta tb):=by
 intro pins s σ H Q I h
 exact wpAny_Compare1 (AO ha hb I h fun v u s2 x y H2 I2 rx ry q=>ho pins s2 σ H2 x y v u Q I2 rx ry q) hm
noncomputable def uA (t:TE):TT:=fun σ H Q=>t σ H fun x H'=>∃k,x=.bl k/\Q k H'
theorem xG {op:CmpOp} {r:R2} (ho:OpR X (compareOp op) r) (ha:PE X a ta) (hb:PE X b tb) (hm:behindInMarks op b=false):PT X (.Compare a [op] [b] pos) (uA (tOp r ta tb)):=by
 intro pins s σ H Q I h
 refine wpAny_isTrue_Compare1 (thn (ha pins s σ H _ I h) fun v s1 ⟨x,H1,I1,r1,q1⟩=>thn (hb pins s1 σ H1 _ I1 q1) fun u s2 ⟨y,H2,I2,r2,q2⟩=>
  thn (ho pins s2 σ H2 x y v u _ I2 r1 r2 q2) fun c s3 ⟨z,H3,I3,r3,k,e,q3⟩=>?_) hm
 subst e
 cases r3
 exact wpAny_truthy_bool ⟨H3,I3,q3⟩
noncomputable def rh (r r':R2) (ta tb tc:TE):TE:=fun σ H Q=>ta σ H fun x H1=>tb σ H1 fun y H2=>r x y H2 fun z H3=>∃k,z=.bl k ∧
 (if k=true then tc σ H3 fun w' H4=>r' y w' H4 Q else Q (.bl false) H3)
theorem wc {op op':CmpOp} {r r':R2} (ho:OpR X (compareOp op) r) (ho':OpR X (compareOp op') r') (ha:PE X a ta) (hb:PE X b tb) (hc:PE X c tc)
  (hm:lastMarks [op,op'] [b,c]=false:=by with_unfolding_all rfl):PE X (.Compare a [op,op'] [b,c] pos) (rh r r' ta tb tc):=by
 intro pins s σ H Q I h
 refine Compare_chain (thn (ha pins s σ H _ I h) fun v s1 ⟨x,H1,I1,r1,q1⟩=>chain_link (thn (hb pins s1 σ H1 _ I1 q1) fun u s2 ⟨y,H2,I2,r2,q2⟩=>
  thn (ho pins s2 σ H2 x y v u _ I2 r1 r2 q2) fun d s3 ⟨z,H3,I3,r3,k,e,q3⟩=>?_)) hm
 subst e
 cases r3
 refine wpAny_truthy_bool ?_
 cases k with
 | false=>exact ite_ff ⟨.bl false,H3,I3,rfl,q3⟩
 | true=>exact ite_tt (chain_last (thn (hc pins s3 σ H3 _ I3 q3) fun w' s4 ⟨z',H4,I4,r4,q4⟩=>ho' pins s4 σ H4 y z' u w' Q I4 r2 r4 q4))
theorem vN {op op':CmpOp} {r r':R2} (ho:OpR X (compareOp op) r) (ho':OpR X (compareOp op') r') (ha:PE X a ta) (hb:PE X b tb) (hc:PE X c tc)
  (hm:lastMarks [op,op'] [b,c]=false:=by with_unfolding_all rfl):PT X (.Compare a [op,op'] [b,c] pos) (uA (rh r r' ta tb tc)):=by
 intro pins s σ H Q I h
 refine isTrue_chain (thn (ha pins s σ H _ I h) fun v s1 ⟨x,H1,I1,r1,q1⟩=>test_link (thn (hb pins s1 σ H1 _ I1 q1) fun u s2 ⟨y,H2,I2,r2,q2⟩=>
  thn (ho pins s2 σ H2 x y v u _ I2 r1 r2 q2) fun d s3 ⟨z,H3,I3,r3,k,e,q3⟩=>?_)) hm
 subst e
 cases r3
 refine wpAny_truthy_bool ?_
 cases k with
 | false=>
  obtain⟨k',e',q'⟩:=q3
  cases e'
  exact ite_ff ⟨H3,I3,q'⟩
 | true=>
  refine ite_tt (test_last (thn (hc pins s3 σ H3 _ I3 q3) fun w' s4 ⟨z',H4,I4,r4,q4⟩=>thn (ho' pins s4 σ H4 y z' u w' _ I4 r2 r4 q4) fun d' s5 ⟨z2,H5,I5,r5,k2,e2,q5⟩=>?_))
  subst e2
  cases r5
  exact wpAny_truthy_bool ⟨H5,I5,q5⟩
noncomputable def yD (K:PySem.W.Frag) (x:V) (H:Hp) (k:Bool):Prop:=
 match x with
 | .non=>k=false
 | .bl b=>k=b
 | .int i=>k=(i != 0)
 | .str y=>y.length<=sizeLine/\k=((y.length:Int) != 0)
 | .byt y=>y.size<=sizeLine/\k=((y.size:Int) != 0)
 | .ref p=>(∃xs,SqL K H p xs/\k = !xs.isEmpty)\/(∃xs,SqT K H p xs/\k = !xs.isEmpty)\/∃kvs,H p=some (.dK kvs)/\k = !kvs.isEmpty
 | _=>False
theorem qX {κ:Type} {kvs:List (κ × V)} {vs:List (κ × Value)} (r:KV kvs vs):(!vs.isEmpty) = !kvs.isEmpty:=by
 cases r<;>rfl
theorem ky {xs:List V} {its:List Value} (r:Vals xs its):(!its.toArray.isEmpty) = !xs.isEmpty:=by
 cases r<;>simp
theorem gE:(sizeLine:Nat)<2 ^ 63:=by rw[sizeLine_eq];decide
theorem Af:EN X (fun x H Q=>∃k,yD X.K x H k/\Q k H):=by
 intro pins s σ H x v Q I rx h
 obtain⟨k,e,q⟩:=h
 have hl:=gE
 have hs:sizeLine=16777216:=sizeLine_eq
 cases x with
 | non=>
  cases rx
  have e':k=false:=e
  subst e'
  exact truthy_none ⟨H,I,q⟩
 | bl b=>
  cases rx
  have e':k=b:=e
  subst e'
  exact wpAny_truthy_bool ⟨H,I,q⟩
 | int i=>
  obtain⟨t,rfl⟩:=rx
  have e':k=(i != 0):=e
  subst e'
  exact PySem.P.truthy_int ⟨H,I,q⟩
 | str y=>
  obtain⟨t,rfl⟩:=rx
  obtain⟨hy,e'⟩:y.length<=sizeLine/\k=((y.length:Int) != 0):=e
  subst e'
  exact PySem.P.truthy_str (by omega) ⟨H,I.tok _,q⟩
 | byt y=>
  obtain⟨t,rfl⟩:=rx
  obtain⟨hy,e'⟩:y.size<=sizeLine/\k=((y.size:Int) != 0):=e
  subst e'
  exact PySem.W.truthy_bytes (by omega) ⟨H,I.tok _,q⟩
 | ref p=>
  cases rx
  have e':(∃xs,SqL X.K H p xs/\k = !xs.isEmpty)\/(∃xs,SqT X.K H p xs/\k = !xs.isEmpty)\/∃kvs,H p=some (.dK kvs)/\k = !kvs.isEmpty:=e
  rcases e' with⟨xs,hx,e'⟩ | ⟨xs,hx,e'⟩ | ⟨kvs,hx,e'⟩
  ·subst e'
   obtain⟨its,r,pl,hz⟩:=I.list hx
   have hlen:=r.length
   exact wpAny_truthy_list pl.isList (by simp only[List.size_toArray];omega) ⟨H,I.tok _,by rw[ky r];exact q⟩
  ·subst e'
   obtain⟨its,r,pl,hz⟩:=I.tuple hx
   have hlen:=r.length
   exact truthy_tuple pl (by simp only[List.size_toArray];omega) ⟨H,I.tok _,by rw[ky r];exact q⟩
  ·subst e'
   obtain⟨hz,hS,vs,r,m⟩:kvs.length<=sizeLine/\(p == sysModules)=false/\∃vs,KV kvs vs/\s.heap.DictOf (mI X.prog X.w) p vs:=I.hok p _ hx
   have hlen:kvs.length=vs.length:=Paired.length r
   exact wpAny_truthy_dict hS m (by omega) ⟨H,I.tok _,by rw[qX r];exact q⟩
 | _=>exact(show False from e).elim
theorem uW (ha:PE X a ta) (he:∀whole,isTrue a X.env whole=(do let v ← whole;standAt a.pos;holding [v] (truthy v))) :
  PT X a (fun σ H Q=>ta σ H fun x H'=>∃k,yD X.K x H' k/\Q k H'):=by
 intro pins s σ H Q I h
 exact isTrue_plain (thn (ha pins s σ H _ I h) fun v s1 ⟨x,H1,I1,r1,q1⟩=>Af pins s1 σ H1 x v Q I1 r1 q1) (he _)
theorem qE:OpR X (binaryOp .Add) (fun x y H Q=>∃i j,x=.str i/\y=.str j/\i.length+j.length<=sizeLine/\Q (.str (i++j)) H):=by
 intro pins s σ H x y v u Q I rx ry h
 obtain⟨i,j,rfl,rfl,hz,q⟩:=h
 obtain⟨t,rfl⟩:=rx
 obtain⟨t',rfl⟩:=ry
 exact add_str (fun t' tk=>⟨.str (i++j),H,I.tok _,⟨_,rfl⟩,q⟩) hz
theorem vals1 {x:V} {us:List Value} (r:Vals [x] us):∃u,us=[u]/\RelV x u:=by
 cases r with
 | cons r1 r2=>cases r2;exact⟨_,rfl,r1⟩
theorem vals2 {x y:V} {us:List Value} (r:Vals [x,y] us):∃u w',us=[u,w']/\RelV x u/\RelV y w':=by
 cases r with
 | cons r1 r2=>
  cases r2 with
  | cons r3 r4=>cases r4;exact⟨_,_,rfl,r1,r3⟩
theorem tZ (hc:X.calm=true):aR X (.builtin "max") (fun xs H Q=>∃i j,xs=[.int i,.int j]/\Q (.int (if j > i then j else i)) H):=by
 intro pins s σ H xs us Q I r h
 obtain⟨i,j,rfl,q⟩:=h
 obtain⟨u,w',rfl,⟨t,rfl⟩,⟨t',rfl⟩⟩:=vals2 r
 refine max_two_ints (I.ok.hd hc) fun h' tk k=>⟨_,H,I.kept k,?_,q⟩
 by_cases hj:j > i
 ·rw[if_pos hj,if_pos hj];exact⟨_,rfl⟩
 ·rw[if_neg hj,if_neg hj];exact⟨_,rfl⟩
theorem tW:aR X (.type "int") (fun xs H Q=>(∃i,xs=[.int i]/\Q (.int i) H)\/∃k,xs=[.bl k]/\Q (.int (if k then 1 else 0)) H):=by
 intro pins s σ H xs us Q I r h
 rcases h with⟨i,rfl,q⟩ | ⟨k,rfl,q⟩
 ·obtain⟨u,rfl,t,rfl⟩:=vals1 r
  exact call_int_int ⟨.int i,H,I,⟨_,rfl⟩,q⟩
 ·obtain⟨u,rfl,r1⟩:=vals1 r
  cases r1
  exact call_int_bool ⟨.int (if k then 1 else 0),H,I.tok _,⟨_,rfl⟩,q⟩
end
structure AE (h:Heap) (x dx C:Addr) (mA:Str->Option Value):Prop where
 obj:h.get? x=some (PySem.W.instObj C dx)
 ns:h.Ns1 dx mA
 ne:dx≠x
theorem tI {h:Heap} {dx:Addr} {mA:Str->Option Value} (n:h.Ns1 dx mA):∃od,h.get? dx=some od/\∀name,PySem.W.lookIn name od=some (mA name):=by
 obtain⟨o,es,ep,ho,hd,hk,_,hm⟩:=n
 refine⟨o,ho,fun name=>?_⟩
 have e:=hm name
 unfold nsFind findBy at e
 rw[<- Array.find?_toList] at e
 unfold PySem.W.lookIn
 rw[hd]
 dsimp only
 split
 ·rename_i y q
  rw[q] at e
  exact congrArg some e
 ·rename_i q
  rw[q] at e
  have a:es.toList.any (·.refKey)=false:=by
   rw[List.any_eq_false]
   intro y hy
   obtain⟨z,t,hkey⟩:=hk y (Array.mem_toList_iff.mp hy)
   simp[DictEntry.refKey,hkey]
  have a':¬ es.toList.any (·.refKey)=true:=by rw[a];exact Bool.false_ne_true
  rw[if_neg a']
  exact congrArg some e
theorem AE.look {h:Heap} {x dx C:Addr} {mA:Str->Option Value} (I:AE h x dx C mA):∃od,PySem.W.InstAt h x (PySem.W.instObj C dx) C (some od)/\∀name,PySem.W.lookIn name od=some (mA name):=
 let ⟨od,ho,hl⟩:=tI I.ns
 ⟨od,⟨I.obj,rfl,rfl,ho⟩,hl⟩
section
variable {P:Program} {w:World} {H H':Hp} {h h':Heap} {a C dx:Addr} {fs fs':List (Str × V)}
theorem xy (hok:HOk P w H h) (e:H a=some (.ins C dx fs)):∃mA,AE h a dx C mA/\(∀f,wz (fs.lookup f) (mA f))/\PySem.Within mA (fs.map (·.1))/\fs.length<=1000/\H dx=some (.own a):=by
 obtain⟨d,z,ne,ob,mA,n,r,q⟩:=(show br P w H h a (.ins C dx fs) from hok a _ e)
 exact⟨mA,⟨ob,n,ne⟩,r,q,z,d⟩
end
structure Cls (K:PySem.W.Frag) (C:Addr):Prop where
 pg:PySem.W.plainGet K C Str.empty=true
 hd:PySem.W.hasDictIn K C=true
 po:PySem.W.plainOver K C=true
 sa:PySem.W.findIn K (.ref C) "__setattr__" = some (some (.builtin "object.__setattr__"))
theorem Cls.get {K:PySem.W.Frag} {C:Addr} (c:Cls K C) (f:Str):PySem.W.plainGet K C f=true:=c.pg
section
variable {X:Cx} {pins:List (Addr × Obj)} {σ:St} {H:Hp} {s:Shared} {a C dx:Addr} {fs:List (Str × V)} {f:Str} {v:V} {A:Around} {E:Value->Shared->Prop}
theorem yF {prog:Program} {w:World} {env:Env} {e:Expr} {f:Str} {pos:Pos} {s:Shared} {Q:Value->Shared->Prop} (hb:attributeBase e f env (eval e env)=eval e env)
  (h:wpAny (model prog w) A (eval e env) (fun o s₁=>wpAny (model prog w) A (getAttr o f true) Q E s₁) E s):wpAny (model prog w) A (eval (.Attribute e f pos) env) Q E s:=
 Attribute_any_ h (by rw[arm_eval_Attribute,hb])
end
section
variable {X:Cx} {pins:List (Addr × Obj)} {σ:St} {H:Hp} {s:Shared} {A:Around} {E:Value->Shared->Prop} {Q:Value->Shared->Prop} {c:Value} {b:Bool}
inductive gy (K:PySem.W.Frag) (H:Hp):V->Value->Prop where
 | non:gy K H .non (.type "NoneType")
 | bl (x:Bool):gy K H (.bl x) (.type "bool")
 | int (i:Int):gy K H (.int i) (.type "int")
 | str (x:Str):gy K H (.str x) (.type "str")
 | flt (x:UInt64):gy K H (.flt x) (.type "float")
 | lst {a:Addr} {xs:List V} (e:H a=some (.lst xs)):gy K H (.ref a) (.type "list")
 | frz {a:Addr} {o:Obj} {xs:List V} (e:H a=some (.frz o (.lst xs))):gy K H (.ref a) (.type "list")
 | tup {a:Addr} {xs:List V} (e:H a=some (.tup xs)):gy K H (.ref a) (.type "tuple")
 | d_ {a:Addr} {o:Obj} {kvs:List (Key × V)} (e:H a=some (.frz o (.dK kvs))):gy K H (.ref a) (.type "dict")
 | dK {a:Addr} {kvs:List (Key × V)} (e:H a=some (.dK kvs)):gy K H (.ref a) (.type "dict")
 | dT {a:Addr} {kvs:List (List Key × V)} (e:H a=some (.dT kvs)):gy K H (.ref a) (.type "dict")
 | ins {a C dx:Addr} {fs:List (Str × V)} (e:H a=some (.ins C dx fs)) (cl:Cls K C) (ha:PySem.W.findIn K (.ref C) "__class__" = some (some (.builtin "object.__class__")))
   (hn:PySem.W.specialIn K (.builtin "object.__class__") "__get__" = some (some (.builtin "getset_descriptor.__get__"))) (htk:PySem.W.takesIn K (.builtin "object.__class__")=some true)
   (hm:PySem.W.mroIn K C (.type "object")=some true):gy K H (.ref a) (.ref C)
theorem tw {x:V} {u t:Value} (I:Inv X pins σ H s) (rx:RelV x u) (ty:gy X.K H x t) (e:PySem.W.kitOne X.K t c=some b) (h:∀tk,Q (.bool b) { s with toks:=tk }) :
  wpAny (model X.prog X.w) A (call (.builtin "isinstance") [u,c]) Q E s:=by
 cases ty with
 | non=>cases (show u=Value.none from rx);exact PySem.W.kia_one PySem.W.kitx_none I.kIn True.intro e (fun z=>nomatch z) h
 | bl y=>cases (show u=Value.bool y from rx);exact PySem.W.kia_one PySem.W.kitx_bool I.kIn True.intro e (fun z=>nomatch z) h
 | int i=>obtain⟨t,q⟩:=(show ∃t,u=Value.int i t from rx);cases q;exact PySem.W.kia_one PySem.W.kitx_int I.kIn True.intro e (fun z=>nomatch z) h
 | str y=>obtain⟨t,q⟩:=(show ∃t,u=Value.str y t from rx);cases q;exact PySem.W.kia_one PySem.W.kitx_str I.kIn True.intro e (fun z=>nomatch z) h
 | flt y=>obtain⟨t,q⟩:=(show ∃t,u=Value.float y t from rx);cases q;exact PySem.W.kia_one PySem.W.kitx_float I.kIn True.intro e (fun z=>nomatch z) h
 | @lst a xs ea=>
  cases (show u=Value.ref a from rx)
  obtain⟨_,_,n,_,h1⟩:=(show br X.prog X.w H s.heap a (.lst xs) from I.hok a _ ea)
  exact PySem.W.kia_one PySem.W.kitx_list I.kIn ⟨_,h1,rfl⟩ e (fun z=>nomatch z) h
 | @frz a ob xs ea=>
  cases (show u=Value.ref a from rx)
  obtain⟨_,_,_,n,_,h1⟩:=(show br X.prog X.w H s.heap a (.frz ob (.lst xs)) from I.hok a _ ea)
  exact PySem.W.kia_one PySem.W.kitx_list I.kIn ⟨_,h1,rfl⟩ e (fun z=>nomatch z) h
 | @tup a xs ea=>
  cases (show u=Value.ref a from rx)
  obtain⟨_,_,_,p⟩:=(show br X.prog X.w H s.heap a (.tup xs) from I.hok a _ ea)
  obtain⟨o,h1,⟨h2,_⟩,_⟩:=p
  exact PySem.W.kia_one PySem.W.kitx_tuple I.kIn ⟨o,h1,h2⟩ e (fun z=>nomatch z) h
 | @d_ a ob kvs ea=>
  cases (show u=Value.ref a from rx)
  obtain⟨_,_,_,vs,_,p⟩:=(show br X.prog X.w H s.heap a (.frz ob (.dK kvs)) from I.hok a _ ea)
  obtain⟨o,es,ep,h1,h2,_⟩:=p
  exact PySem.W.kia_one PySem.W.kitx_dict I.kIn ⟨o,h1,h2.1⟩ e (fun z=>nomatch z) h
 | @dK a kvs ea=>
  cases (show u=Value.ref a from rx)
  obtain⟨_,_,vs,_,p⟩:=(show br X.prog X.w H s.heap a (.dK kvs) from I.hok a _ ea)
  obtain⟨o,es,ep,h1,h2,_⟩:=p
  exact PySem.W.kia_one PySem.W.kitx_dict I.kIn ⟨o,h1,h2.1⟩ e (fun z=>nomatch z) h
 | @dT a kvs ea=>
  cases (show u=Value.ref a from rx)
  obtain⟨_,_,xs,_,o,es,ep,h1,h2,_⟩:=(show br X.prog X.w H s.heap a (.dT kvs) from I.hok a _ ea)
  exact PySem.W.kia_one PySem.W.kitx_dict I.kIn ⟨o,h1,h2.1⟩ e (fun z=>nomatch z) h
 | @ins a C dx fs ea cl ha hn htk hm=>
  cases (show u=Value.ref a from rx)
  obtain⟨mA,O,_⟩:=xy I.hok ea
  obtain⟨od,J,_⟩:=O.look
  exact PySem.W.kia_one (PySem.W.kitx_own (cl.get _) cl.hd ha hn htk hm) I.kIn J e (fun z=>nomatch z) h
end
structure bT (k:Nat) (A:Around):Prop where
 hd:A.handled=none
 dp:A.depth+3*k+5<recursionLimit
 un:A.units+16*k+200<cLine
 gd:A.guards=some []
theorem bT.mono {j k:Nat} {A:Around} (r:bT k A) (h:j<=k):bT j A:=⟨r.hd,by have:=r.dp;omega,by have:=r.un;omega,r.gd⟩
theorem bT.deeper {k:Nat} {A:Around} (r:bT (k+1) A) (env:Env):bT k (A.deeper env):=
 ⟨r.hd,by have:=r.dp;show A.depth+1+3*k+5<_;omega,by have:=r.un;show A.units+3+16*k+200<_;omega,r.gd⟩
theorem qY {A:Around} {C:Addr} {us:List Value} {kw:List (Str × Value)}:(A.under (.builtin "type.__call__" ⟨.ref C::us,kw⟩)).depth=A.depth+1:=by
 first | rfl | simp[Around.under,Code.weight,Code.isCreation,Code.isGuard,Code.isCaller,Code.frames,Code.isFrame,guardIds]
theorem qB {A:Around} {C:Addr} {us:List Value} {kw:List (Str × Value)}:(A.under (.builtin "type.__call__" ⟨.ref C::us,kw⟩)).units=A.units+1:=by
 first | rfl | simp[Around.under,Code.cUnits,Code.frames,Code.isFrame]
theorem bT.make {k:Nat} {A:Around} (r:bT (k+1) A) (C:Addr) (us:List Value) (kw:List (Str × Value)):bT k (A.under (.builtin "type.__call__" ⟨.ref C::us,kw⟩)):=
 ⟨r.hd,by have:=r.dp;rw[qY];omega,by have:=r.un;rw[qB];omega,by first | exact r.gd | (simpa [Around.under,Code.envs,Code.isFrame,Code.isGuard,guardIds] using r.gd)⟩
theorem bT.depth {k:Nat} {A:Around} (r:bT k A):A.depth<recursionLimit:=by have:=r.dp;omega
theorem bT.units {k:Nat} {A:Around} (r:bT k A):A.units+64<cLine:=by have:=r.un;omega
noncomputable def BX:TA:=fun _ H Q=>Q [] H
noncomputable def zN (ta:TE) (tr:TA):TA:=fun σ H Q=>ta σ H fun x H1=>tr σ H1 fun xs H2=>Q (x::xs) H2
section
variable {X:Cx} {e:Expr} {es:List Expr} {te:TE} {t:TA} {pos:Pos}
theorem gw:PA X [] BX:=fun _ _ _ _ H Q I h=>Calls.spliced_nil ⟨[],H,I,.nil,h⟩
theorem cU (ha:PE X e te) (hr:PA X es t) (hs:starEach (e::es) X.env=(false,eval e X.env)::starEach es X.env:=by rfl):PA X (e::es) (zN te t):=by
 intro pos pins s σ H Q I h
 rw[hs]
 show wpAny _ _ (spliced ((false,eval e X.env)::backTo pos (starEach es X.env))) _ _ s
 refine Calls.spliced_cons (thn (ha pins s σ H _ I h) fun u s1 ⟨x,H1,I1,r1,q1⟩=>?_)
 exact thn (hr pos pins s1 σ H1 _ I1 q1) fun us s2 ⟨xs,H2,I2,r2,q2⟩=>⟨x::xs,H2,I2,.cons r1 r2,q2⟩
noncomputable def Ee (t:TA):TE:=fun σ H Q=>t σ H fun xs H1=>xs.length<=sizeLine/\∀p,H1 p=none->Q (.ref p) (upd H1 p (.tup xs))
noncomputable def Ef (t:TA):TE:=fun σ H Q=>t σ H fun xs H1=>xs.length<=sizeLine/\∀p,H1 p=none->Q (.ref p) (upd H1 p (.lst xs))
theorem AV {x1} (h:PA X es t):PE X (.Tuple es x1 pos) (Ee t):=by
 intro pins s σ H Q I hq
 refine wpAny_Tuple_spliced (thn (h pos pins s σ H _ I hq) fun us s1 ⟨xs,H1,I1,r,z,q⟩=>⟨by rw[<- r.length];exact z,?_⟩)
 have hf:H1 s1.heap.objs.size=none:=I1.hok.fresh (Nat.le_refl _)
 refine⟨.ref s1.heap.objs.size,upd H1 s1.heap.objs.size (.tup xs),I1.laid (t':=s1.toks) (fun b u e=>Heap.get?_push_of_some _ e) (Nat.le_refl _) ?_,rfl,q _ hf⟩
 exact⟨z,us,r,⟨_,Heap.get?_push_size _ rfl,⟨rfl,_,rfl⟩,rfl⟩⟩
theorem A1 (h:PA X es t):PE X (.List es pos) (Ef t):=by
 intro pins s σ H Q I hq
 refine wpAny_List_spliced (thn (h pos pins s σ H _ I hq) fun us s1 ⟨xs,H1,I1,r,z,q⟩=>⟨by rw[<- r.length];exact z,?_⟩)
 have hf:H1 s1.heap.objs.size=none:=I1.hok.fresh (Nat.le_refl _)
 refine⟨.ref s1.heap.objs.size,upd H1 s1.heap.objs.size (.lst xs),I1.laid (t':=s1.toks) (fun b u e=>Heap.get?_push_of_some _ e) (Nat.le_refl _) ?_,rfl,q _ hf⟩
 exact⟨z,us,0,r,Heap.get?_push_size _ rfl⟩
end
noncomputable abbrev Sp:=List V->Hp->VK->XK->Prop
noncomputable abbrev CXT:=List Env->Hp->Shared->XK->Value->Shared->Prop
structure vy (P:Program) (w:World) (K:PySem.W.Frag) (mg:Str->Option Value) (base:Heap) (A:Around) (outer:List Env) (s:Shared) (H:Hp):Prop where
 frames:A.frames=some outer
 mod:Mod K mg base
 bs:∀b o,base.get? b=some o->s.heap.get? b=some o/\H b=none
 bsz:base.objs.size<=s.heap.objs.size
 fX:s.heap.FunFrames base outer
 frf:∀b∈frs outer,H b=none
 hok:HOk P w H s.heap
 bare:AllBare s.gens
noncomputable def CE (outer:List Env) (P:Program) (w:World) (H:Hp) (s:Shared) (Q:VK) (u:Value) (s':Shared):Prop:=
 ∃v H',s'.os=s.os/\AllBare s'.gens/\Un (frs outer) [] H H' s.heap s'.heap/\HOk P w H' s'.heap/\RelV v u/\Q v H'
noncomputable def CR (CX:CXT) (outer:List Env) (P:Program) (w:World) (H:Hp) (s:Shared) (Q:VK) (E:XK) (r:Result) (s':Shared):Prop:=
 match r with
 | .ok (.ret u)=>CE outer P w H s Q u s'
 | .ok _=>False
 | .error e=>CX outer H s E e s'
structure dq (P:Program) (w:World) (K:PySem.W.Frag) (mg:Str->Option Value) (base:Heap) (CX:CXT) (k:Nat) (f:Addr) (fd:FuncData) (ps:List Str) (sp:Sp):Prop where
 len:∀vs H Q E,sp vs H Q E->vs.length=ps.length
 run:∀(A:Around) (outer:List Env) (s:Shared) (H:Hp) (args:Args) (us:List Value) (vs:List V) (Q:VK) (E:XK),bT k A->vy P w K mg base A outer s H->BindsTo s fd args (ps.zip us)->Vals vs us->sp vs H Q E →
  codeAny (model P w) A (.call (.ref f) args) (CR CX outer P w H s Q E) s
theorem dq.mono {P:Program} {w:World} {K:PySem.W.Frag} {mg:Str->Option Value} {base:Heap} {CX:CXT} {j k:Nat} {f:Addr} {fd:FuncData} {ps:List Str} {sp:Sp} (F:dq P w K mg base CX j f fd ps sp) (h:j<=k) :
  dq P w K mg base CX k f fd ps sp:=⟨F.len,fun A outer s H args us vs Q E hr=>F.run A outer s H args us vs Q E (hr.mono h)⟩
theorem dq.imp {P:Program} {w:World} {K:PySem.W.Frag} {mg:Str->Option Value} {base:Heap} {CX:CXT} {k:Nat} {f:Addr} {fd:FuncData} {ps:List Str} {sp sp':Sp} (F:dq P w K mg base CX k f fd ps sp)
  (h:∀vs H Q E,sp' vs H Q E->sp vs H Q E):dq P w K mg base CX k f fd ps sp':=
 ⟨fun vs H Q E q=>F.len vs H Q E (h _ _ _ _ q),fun A outer s H args us vs Q E hr he hb hv hs=>F.run A outer s H args us vs Q E hr he hb hv (h _ _ _ _ hs)⟩
section
variable {X:Cx} {pins:List (Addr × Obj)} {σ:St} {H:Hp} {s s':Shared}
theorem Inv.BV (I:Inv X pins σ H s):vy X.prog X.w X.K X.mg X.base X.A X.stack s H:=
 ⟨I.ok.frames,I.ok.mod,I.bs,Nat.le_trans I.ok.bsz I.sz,I.stack,I.mH,I.hok,I.bare⟩
theorem Inv.after {Q:VK} {u:Value} (I:Inv X pins σ H s) (h:CE X.stack X.prog X.w H s Q u s'):EP X pins σ Q u s':=by
 obtain⟨v,H',os,bare,un,hok,r,q⟩:=h
 obtain⟨hh,g,d,t,os'⟩:=s'
 obtain rfl:os'=s.os:=os
 exact⟨v,H',I.call (h':=hh) (g':=g) (d':=d) (t':=t) (ch:=[]) un hok bare (fun b z=>absurd z (by simp)),r,q⟩
end
noncomputable def zP (sp:Sp) (dvs:List V) (E:XK) (t:TA):TE:=fun σ H Q=>t σ H fun vs H1=>sp (vs++dvs) H1 Q E
noncomputable def Binds (K:PySem.W.Frag) (fd:FuncData) (ps:List Str) (ds:List Value):Prop:=
 ∀(s:Shared) (us:List Value),K.In s.heap->(us++ds).length=ps.length->BindsTo s fd ⟨us,[]⟩ (ps.zip (us++ds))
theorem Binds.all {K:PySem.W.Frag} {fd:FuncData} {ps:List Str} (h:∀us:List Value,us.length=ps.length->bindArgs fd ⟨us,[]⟩=pure (ps.zip us)):Binds K fd ps []:=fun s us _ hl=>by
 rw[List.append_nil] at hl ⊢
 exact .of_eq (h us hl)
noncomputable def Passes (CX:CXT) (X:Cx) (E:XK):Prop:=∀(pins:List (Addr × Obj)) (σ:St) (H:Hp) (s:Shared) (e:Value) (s':Shared),Inv X pins σ H s->CX X.stack H s E e s'->X.xe e s'
section
variable {X:Cx} {CX:CXT} {k:Nat} {f C:Addr} {fd:FuncData} {ps:List Str} {sp:Sp} {dvs:List V} {ds:List Value} {E:XK} {x m:Str} {p pos apos:Pos} {e o:Expr} {es:List Expr} {ta:TE} {t:TA}
theorem zY {pins:List (Addr × Obj)} {σ:St} {H:Hp} {s:Shared} {Q:VK} {us:List Value} {vs:List V} (F:dq X.prog X.w X.K X.mg X.base CX k f fd ps sp) (hr:bT k X.A) (hb:Binds X.K fd ps ds) (hd:Vals dvs ds) (hx:Passes CX X E)
  (I:Inv X pins σ H s) (r:Vals vs us) (h:sp (vs++dvs) H Q E):wpAny (model X.prog X.w) X.A (call (.ref f) us) (EP X pins σ Q) X.xe s:=by
 have r2:Vals (vs++dvs) (us++ds):=r.append hd
 have hl:(us++ds).length=ps.length:=by rw[<- r2.length];exact F.len _ _ _ _ h
 refine wpAny_call (codeAny_mono (F.run X.A X.stack s H ⟨us,[]⟩ (us++ds) (vs++dvs) Q E hr I.BV (hb s us I.kIn hl) r2 h) fun r s' hq=>?_)
 cases r with
 | error e=>exact hx pins σ H s e s' I hq
 | ok fl=>
  cases fl with
  | ret u=>exact I.after hq
  | next=>exact False.elim hq
  | brk=>exact False.elim hq
  | cont=>exact False.elim hq
theorem si (F:dq X.prog X.w X.K X.mg X.base CX k f fd ps sp) (hr:bT k X.A) (hg:Gl X x) (hm:X.mg x=some (.ref f)) (hk:PySem.W.keepIn X.K (.ref f)=true) (hb:Binds X.K fd ps ds) (hd:Vals dvs ds) (hx:Passes CX X E)
  (ha:PA X (e::es) t) (hdb:(x == ("__debug__" : Str))=false:=by decide) (he:starEach (e::es) X.env=(false,eval e X.env)::starEach es X.env:=by rfl) (hpl:(backTo pos (starEach es X.env)).any (·.1)=false:=by rfl) :
  PE X (.Call (.Name x p) (e::es) [] pos) (zP sp dvs E t):=by
 intro pins s σ H Q I h
 refine wpAny_Call_Name_kw (fR I hg hm ?_ hdb)
 refine PySem.W.callWith_K (h₀:=X.base) I.ok.mod.kin hk (thn (ha pos pins s σ H _ I h) fun us s1 ⟨vs,H1,I1,r,q⟩=>⟨I1.kIn,?_⟩) he hpl
 exact zY F hr hb hd hx I1 r q
end
structure aP (N P:List Str) (sc:Scope):Prop where
 kind:sc.kind=.function
 co:sc.isCoroutine=false
 gen:sc.isGenerator=false
 nd:N.Nodup
 pre:N.take P.length=P
 par:∀x∈P,sc.names.lookup x=some .local\/sc.names.lookup x=some .cell
 zS:∀y∈sc.names,y.2≠.free
theorem lT {kindOf:Str->Option NameKind} {x:Str}:∀{binds:List (Str × Value)} {m:Str->Option Value},(∀v,(x,v)∉binds)->bindL kindOf binds m x=m x
 | [],_,_=>rfl
 | (n,v)::r,m,h=>by
  unfold bindL
  rw[lT fun w hw=>h w (List.mem_cons_of_mem _ hw)]
  split
  ·have:x≠n:=by rintro rfl;exact h v List.mem_cons_self
   simp[this]
  ·rfl
theorem mC {kindOf:Str->Option NameKind} {x:Str}:∀{binds:List (Str × Value)} {m:Str->Option Value},(∀v,(x,v)∉binds)->bindC kindOf binds m x=m x
 | [],_,_=>rfl
 | (n,v)::r,m,h=>by
  unfold bindC
  rw[mC fun w hw=>h w (List.mem_cons_of_mem _ hw)]
  split
  ·rfl
  ·have:x≠n:=by rintro rfl;exact h v List.mem_cons_self
   simp[this]
theorem fQ {kindOf:Str->Option NameKind} {x:Str} {v:Value}:∀{P:List Str} {vs:List Value} {i:Nat} {m:Str->Option Value},P.Nodup->P[i]?=some x->vs[i]?=some v->kindOf x=some .local →
  bindL kindOf (P.zip vs) m x=some v
 | [],_,_,_,_,h,_,_=>by simp at h
 | _::_,[],_,_,_,_,h,_=>by simp at h
 | p::P,w::vs,0,m,nd,h1,h2,hk=>by
  simp at h1 h2;subst h1;subst h2
  show bindL kindOf ((p,w)::P.zip vs) m p=_
  unfold bindL
  rw[lT fun v hv=>(List.nodup_cons.mp nd).1 (List.of_mem_zip hv).1,if_pos hk]
  simp
 | p::P,w::vs,i+1,m,nd,h1,h2,hk=>by
  show bindL kindOf ((p,w)::P.zip vs) m x=_
  unfold bindL
  exact fQ (i:=i) (List.nodup_cons.mp nd).2 (by simpa using h1) (by simpa using h2) hk
theorem mv {kindOf:Str->Option NameKind} {x:Str} {v:Value}:∀{P:List Str} {vs:List Value} {i:Nat} {m:Str->Option Value},P.Nodup->P[i]?=some x->vs[i]?=some v->kindOf x≠some .local →
  bindC kindOf (P.zip vs) m x=some v
 | [],_,_,_,_,h,_,_=>by simp at h
 | _::_,[],_,_,_,_,h,_=>by simp at h
 | p::P,w::vs,0,m,nd,h1,h2,hk=>by
  simp at h1 h2;subst h1;subst h2
  show bindC kindOf ((p,w)::P.zip vs) m p=_
  unfold bindC
  rw[mC fun v hv=>(List.nodup_cons.mp nd).1 (List.of_mem_zip hv).1,if_neg hk]
  simp
 | p::P,w::vs,i+1,m,nd,h1,h2,hk=>by
  show bindC kindOf ((p,w)::P.zip vs) m x=_
  unfold bindC
  exact mv (i:=i) (List.nodup_cons.mp nd).2 (by simpa using h1) (by simpa using h2) hk
noncomputable def start (N:List Str) (vs:List V):St:=vs.map some++List.replicate (N.length - vs.length) none
noncomputable def gr (CX:CXT) (P:Program) (w:World) (K:PySem.W.Frag) (mg:Str->Option Value) (base:Heap) (N:List Str) (qual:Str) (scope:Scope) (f:Addr) (cd:Value) (A:Around) (outer:List Env) (s:Shared) (H:Hp) (E:XK):Cx where
 prog:=P
 w:=w
 K:=K
 mg:=mg
 base:=base
 A:=A.deeper (envOfC qual scope s.heap.objs.size f cd)
 N:=N
 aH:=s
 aS:=H
 env:=envOfC qual scope s.heap.objs.size f cd
 outer:=outer
 stack:=envOfC qual scope s.heap.objs.size f cd::outer
 ex:=[]
 calm:=true
 fn:=fun _=>true
 pn:=[]
 xe:=fun e s'=>wpAny (model P w) (A.deeper (envOfC qual scope s.heap.objs.size f cd)) (leaving (envOfC qual scope s.heap.objs.size f cd) e) (fun _ s''=>CX outer H s E e s'') (fun e' s''=>CX outer H s E e' s'') s'
theorem pE {sc:Scope} {n:Nat} {x:Str} (h:sc.names.lookup x=some .cell):∃c,(cellsFrom n sc.names []).lookup x=some c:=by
 have q:=PySem.W.cellsFrom_some sc.names n [] (.inl h)
 exact Option.isSome_iff_exists.mp q
theorem lV {CX:CXT} {P:Program} {w:World} {K:PySem.W.Frag} {mg:Str->Option Value} {base:Heap} {N ps:List Str} {qual:Str} {scope:Scope} {f:Addr} {cd:Value} {A:Around} {outer:List Env} {s s1:Shared} {H:Hp} {E:XK} {us:List Value} {vs:List V}
  (S:aP N ps scope) (hd:A.handled=none) (e0:vy P w K mg base A outer s H) (hl:vs.length=ps.length) (r:Vals vs us)
  (x:InCallC s s.heap.objs.size (bindL (envOfC qual scope s.heap.objs.size f cd).kindOf (ps.zip us) fun _=>none) (cellsFrom (s.heap.objs.size+1) scope.names []) (bindC (envOfC qual scope s.heap.objs.size f cd).kindOf (ps.zip us) fun _=>none) s1) :
  Inv (gr CX P w K mg base N qual scope f cd A outer s H E) [] (start N vs) H s1:=by
 have hpl:ps.length<=N.length:=by have:=congrArg List.length S.pre;rw[List.length_take] at this;omega
 obtain⟨h1,tk,rfl,hk⟩:=x.done
 have noA:∀b:Addr,b∉(gr CX P w K mg base N qual scope f cd A outer s H E).ex:=fun b z=>absurd (show b∈([]:List Addr) from z) (by simp)
 refine⟨⟨e0.mod,S.kind,rfl,rfl,Nat.le_refl _,fun y z c h1 h2=>?_,fun y hy=>?_,fun y c _ h=>?_,fun _=>hd,Around.frames_deeper e0.frames,.inr ⟨rfl,rfl⟩,fun b z=>absurd z (noA b),e0.bs,e0.bsz,fun b _ _=>noA b,fun b z=>absurd z (noA b),e0.fX,e0.frf⟩,
  rfl,e0.bare,Un.kept hk,⟨_,x.toInCall.ns,fun i y v h1 h2 h3=>?_⟩,fun y c h=>⟨_,x.cell y c h⟩,e0.hok.fresh (Nat.le_refl _),fun y c h=>?_,fun p hp=>absurd (show p∈([]:List (Addr × Obj)) from hp) (by simp),e0.hok.kept hk,?_⟩
 ·exact name_of_addr x.apart (PySem.mem_of_lookup h1) (PySem.mem_of_lookup h2)
 ·have hy:scope.names.lookup y=some .cell\/scope.names.lookup y=some .free:=hy
  rcases hy with hy | hy
  ·exact pE hy
  ·exact absurd rfl (S.zS _ (PySem.mem_of_lookup hy))
 ·exact Nat.le_of_lt (x.above y c (PySem.mem_of_lookup h))
 ·have hi:i<vs.length:=by
   unfold start at h2
   by_cases hi:i<vs.length
   ·exact hi
   ·rw[List.getElem?_append_right (by simpa using hi)] at h2
    rw[List.getElem?_replicate] at h2
    split at h2<;>cases h2
  have ha:vs[i]?=some v:=by
   unfold start at h2
   rw[List.getElem?_append_left (by simpa using hi),List.getElem?_map] at h2
   cases e:vs[i]? with
   | none=>rw[e] at h2;cases h2
   | some a=>rw[e] at h2;cases h2;rfl
  obtain⟨u,hu,rv⟩:=r.get ha
  have hp:ps[i]?=some y:=by
   rw[<- S.pre,List.getElem?_take_of_lt (by omega)];exact h1
  have ndP:ps.Nodup:=by rw[<- S.pre];exact S.nd.sublist (List.take_sublist _ _)
  refine⟨u,rv,?_⟩
  rcases S.par y (List.mem_of_getElem? hp) with k | k
  ·exact .inl ⟨k,fQ ndP hp hu k⟩
  ·obtain⟨c,e⟩:=pE (n:=s.heap.objs.size+1) k
   refine .inr ⟨.inl k,c,e,?_⟩
   have q:=x.cell y c e
   rw[mv ndP hp hu (by show scope.names.lookup y≠_;rw[k];decide)] at q
   exact q
 ·exact e0.hok.fresh (Nat.le_of_lt (x.above y c (PySem.mem_of_lookup h)))
 ·unfold start
  show _=N.length
  rw[List.length_append,List.length_map,List.length_replicate]
  omega
theorem zx {CX:CXT} {P:Program} {w:World} {K:PySem.W.Frag} {mg:Str->Option Value} {base:Heap} {k:Nat} {f:Addr} {name qual:Str} {params:Arguments} {body:List Stmt} {scope:Scope} {dV kV doc pm cdv ct oc:Value} {an od:Option Addr}
  {osl:Array (Option Value)} {N ps:List Str} {sp:Sp} (lk:K.lookup f=some ⟨oc,od,.func (PySem.W.fnOf name qual params body scope dV kV doc pm an cdv ct),osl⟩) (hcd:PySem.W.codeIn K cdv qual=true) (S:aP N ps scope)
  (len:∀vs H Q E,sp vs H Q E->vs.length=ps.length)
  (hbody:∀(A:Around) (outer:List Env) (s:Shared) (H:Hp) (vs:List V) (Q:VK) (E:XK),bT k (A.deeper (envOfC qual scope s.heap.objs.size f cdv))->sp vs H Q E →
   ∃t,PSs (gr CX P w K mg base N qual scope f cdv A outer s H E) body t/\t { nx:=fun _ H'=>Q .non H',rt:=Q } (start N vs) H) :
  dq P w K mg base CX (k+1) f (PySem.W.fnOf name qual params body scope dV kV doc pm an cdv ct) ps sp:=by
 refine⟨len,fun A outer s H args us vs Q E hr e0 hb r hsp=>?_⟩
 have hl:=len _ _ _ _ hsp
 have KX:K.In s.heap:=e0.mod.kin.keeps fun b o e=>(e0.bs b o e).1
 have lim:s.heap.NoLimit:=e0.mod.nolimit.keeps fun b o e=>(e0.bs b o e).1
 have hkind:∀y∈ps.zip us,scope.names.lookup y.1=some .local\/(scope.names.lookup y.1=some .cell/\((cellsFrom (s.heap.objs.size+1) scope.names []).lookup y.1).isSome=true):=fun⟨n,v⟩ hy=>by
  rcases S.par n (List.of_mem_zip hy).1 with q | q
  ·exact .inl q
  ·exact .inr ⟨q,PySem.W.cellsFrom_some _ _ _ (.inl q)⟩
 refine codeAny_call_function hr.depth (KX _ _ lk) rfl S.co S.gen rfl (PySem.W.codeRec_of KX hcd) (hb _ _ _ _ ?_)
 refine wpAny_newFunctionEnv_cells S.kind hkind fun env he s1 x=>?_
 subst he
 refine⟨lim.keeps x.toInCall.keep,codeAny_func ?_⟩
 obtain⟨t,ht,hq⟩:=hbody A outer s H vs Q E (hr.deeper _) hsp
 have I:Inv (gr CX P w K mg base N qual scope f cdv A outer s H E) [] (start N vs) H s1:=lV S hr.hd e0 hl r x
 refine wpAny_mono (ht [] s1 (start N vs) H _ I hq) (fun fl s' hs=>?_) fun e s' hs=>hs
 have fin:∀{σ':St} {H':Hp} {v:V} {u:Value},Inv (gr CX P w K mg base N qual scope f cdv A outer s H E) [] σ' H' s'->RelV v u->Q v H'->CE outer P w H s Q u s':=
  fun{σ' H' v u} J rv q=>⟨v,H',J.os,J.bare,J.base,J.hok,rv,q⟩
 cases fl with
 | ret u=>
  obtain⟨v,σ',H',J,rv,q⟩:=hs
  exact fin J rv q
 | next=>
  obtain⟨σ',H',J,q⟩:=hs
  exact fin (v:=V.non) (u:=Value.none) J rfl q
 | brk=>
  obtain⟨_,_,_,q⟩:=hs
  exact False.elim q
 | cont=>
  obtain⟨_,_,_,q⟩:=hs
  exact False.elim q
section
variable {X:Cx} {x:Str} {p pos:Pos} {e:Expr} {es:List Expr} {t:TA} {id T:String} {r:List V->Hp->VK->Prop}
noncomputable def tCB (r:List V->Hp->VK->Prop) (t:TA):TE:=fun σ H Q=>t σ H fun vs H1=>r vs H1 Q
theorem gG (hc:aR X (.builtin id) r) (hg:Gl X x) (hm:X.mg x=none) (hv:bootBuiltins x=some (.builtin id)) (ha:PA X (e::es) t) (hn:x≠"__name__" := by decide) (hdb:(x == ("__debug__" : Str))=false:=by decide)
  (he:starEach (e::es) X.env=(false,eval e X.env)::starEach es X.env:=by rfl) (hpl:(backTo pos (starEach es X.env)).any (·.1)=false:=by rfl):PE X (.Call (.Name x p) (e::es) [] pos) (tCB r t):=by
 intro pins s σ H Q I h
 refine wpAny_Call_Name_kw (kL I hg hm hv ?_ hn hdb)
 exact PyProof.Rows.callWith_builtin1 (thn (ha pos pins s σ H _ I h) fun us s1 ⟨vs,H1,I1,r1,q1⟩=>hc pins s1 σ H1 vs us Q I1 r1 q1) he hpl
theorem iN (hc:aR X (.type T) r) (hg:Gl X x) (hm:X.mg x=none) (hv:bootBuiltins x=some (.type T)) (ha:PA X (e::es) t) (hn:x≠"__name__" := by decide) (hdb:(x == ("__debug__" : Str))=false:=by decide)
  (he:starEach (e::es) X.env=(false,eval e X.env)::starEach es X.env:=by rfl) (hpl:(backTo pos (starEach es X.env)).any (·.1)=false:=by rfl):PE X (.Call (.Name x p) (e::es) [] pos) (tCB r t):=by
 intro pins s σ H Q I h
 refine wpAny_Call_Name_kw (kL I hg hm hv ?_ hn hdb)
 exact PyProof.Rows.callWith_type1 (thn (ha pos pins s σ H _ I h) fun us s1 ⟨vs,H1,I1,r1,q1⟩=>hc pins s1 σ H1 vs us Q I1 r1 q1) he hpl
end
end L2
namespace HT
open PySem PyProof.Rows
section
variable {prog:Program} {w:World} {A:Around} {E:Value->Shared->Prop} {s:Shared}
theorem xI {t b:Addr} {vs ws:List Value} {Q:Value->Shared->Prop} (ht:IsTup s.heap t vs.toArray) (hb:IsTup s.heap b ws.toArray) (hv:vs≠[])
  (h1:ws=[]->Q (.ref t) s) (h2:ws≠[]->Q (.ref s.heap.objs.size) { s with heap:=s.heap.push { cls:=.type "tuple", data:=.seq (vs++ws).toArray } })
  (hsz:vs.length+ws.length<=sizeLine):wpAny (model prog w) A (binaryOp .Add (.ref t) (.ref b)) Q E s:=by
 obtain⟨⟨cls,dd,data,sl⟩,ho,hc,n,hd⟩:=id ht
 obtain⟨⟨cls2,dd2,data2,sl2⟩,ho2,hc2,n2,hd2⟩:=id hb
 simp only at hc hd hc2 hd2
 subst hc hd hc2 hd2
 have e:vs.toArray++ws.toArray=(vs++ws).toArray:=by simp
 by_cases hw:ws=[]
 ·exact concat_meets ⟨_,ho,rfl⟩ ⟨_,ho2,rfl⟩ noFill_tuple_add seq_tuple_add PySem.F.slot_tuple_add PySem.F.entry_tuple_add (PySem.F.args_tuple_add_2 _ _)
   (tuple_addW1 t b vs.toArray ws.toArray n n2 dd dd2 sl sl2 (by simpa using hv) (by simp[hw])) ⟨ho,ho2,h1 hw⟩
 ·refine concat_meets ⟨_,ho,rfl⟩ ⟨_,ho2,rfl⟩ noFill_tuple_add seq_tuple_add PySem.F.slot_tuple_add PySem.F.entry_tuple_add (PySem.F.args_tuple_add_2 _ _)
   (tuple_addW2 t b vs.toArray ws.toArray n n2 dd dd2 sl sl2 (by simpa using hv) (by simpa using hw) (by rw[List.size_toArray,List.size_toArray];exact hsz)) ⟨ho,ho2,?_⟩
  rw[e]
  exact h2 hw
noncomputable def sIx (n d:Nat):Option Int->Nat
 | none=>d
 | some v=>if v<0 then (v+(n:Int)).toNat else min v.toNat n
theorem Bj (n d:Nat) (hd:d<=n) (o:Option Int):sIx n d o<=n:=by
 cases o with
 | none=>exact hd
 | some v=>
  show(if v<0 then (v+(n:Int)).toNat else min v.toNat n)<=n
  by_cases hv:v<0
  ·rw[if_pos hv];omega
  ·rw[if_neg hv];exact Nat.min_le_right _ _
theorem sv (v:Int) (n d:Nat):(if v<0 then max (v+(n:Int)) 0 else min v (n:Int))=((sIx n d (some v):Nat):Int):=by
 show(if v<0 then max (v+(n:Int)) 0 else min v (n:Int))=(((if v<0 then (v+(n:Int)).toNat else min v.toNat n):Nat):Int)
 by_cases hv:v<0
 ·simp only[if_pos hv];omega
 ·simp only[if_neg hv];omega
theorem qV (lo hi:Option Int) (n:Nat):Builtin.Slice.sliceAdjust lo hi 1 (n:Int)=(((sIx n 0 lo:Nat):Int),((sIx n n hi:Nat):Int)):=by
 have h1:¬ ((1:Int)<0):=by omega
 unfold Builtin.Slice.sliceAdjust
 simp only[h1,if_false]
 refine Prod.ext ?_ ?_
 ·cases lo with
  | none=>rfl
  | some v=>exact sv v n 0
 ·cases hi with
  | none=>rfl
  | some v=>exact sv v n n
theorem qQ (i j:Nat):Builtin.Slice.slicePlaces (i:Int) (j:Int) 1=j - i:=by
 unfold Builtin.Slice.slicePlaces
 have h1:(1:Int) > 0:=by omega
 simp only[h1,if_true,Int.ediv_one]
 split<;>omega
theorem kR {v:Value} {o:Option Int} {Q:Option Int->Shared->Prop} (p:IsPart v o) (h:Q o s):wpAny (model prog w) A (Builtin.Slice.slicePartIndex v) Q E s:=by
 cases p with
 | none=>exact slicePart_none h
 | int i t=>exact slicePart_int h
theorem eB {sl:Addr} {vl vu:Value} {lo hi:Option Int} {n:Nat} {Q:Int × Int × Nat->Shared->Prop} (hs:s.heap.IsSliceOf sl vl vu .none) (pl:IsPart vl lo) (pu:IsPart vu hi)
  (h:Q (((sIx n 0 lo:Nat):Int),1,sIx n n hi - sIx n 0 lo) s):wpAny (model prog w) A (Builtin.Slice.sliceApplied (.ref sl) (pure (n:Int))) Q E s:=by
 obtain⟨os,hos,hcs,hds⟩:=id hs
 unfold Builtin.Slice.sliceApplied Builtin.Slice.sliceFields
 refine wpAny_bind (wpAny_bind (wpAny_field hos hds (x:=vl) rfl (wpAny_bind (wpAny_field hos hds (x:=vu) rfl (wpAny_bind (wpAny_field hos hds (x:=.none) rfl (wpAny_pure ?_)))))))
 refine wpAny_bind (slicePart_none ?_)
 show wpAny _ _ (if ((1:Int) == 0)=true then _ else _) _ _ s
 rw[if_neg (by decide)]
 refine wpAny_bind (kR pl (wpAny_bind (kR pu (wpAny_bind (wpAny_pure ?_)))))
 show wpAny _ _ (match Builtin.Slice.sliceAdjust lo hi 1 (n:Int) with | (lo,hi)=>pure (lo,(1:Int),Builtin.Slice.slicePlaces lo hi 1)) _ _ s
 rw[qV lo hi n]
 show wpAny _ _ (pure (((sIx n 0 lo:Nat):Int),(1:Int),Builtin.Slice.slicePlaces ((sIx n 0 lo:Nat):Int) ((sIx n n hi:Nat):Int) 1)) _ _ s
 rw[qQ]
 exact wpAny_pure h
theorem vG (xs:Array Value) (i k:Nat):((List.range k).filterMap fun(m:Nat)=>xs[((i:Int)+(m:Int)*1).toNat]?).toArray=((xs.toList.drop i).take k).toArray:=by
 have e:(fun(m:Nat)=>xs[((i:Int)+(m:Int)*1).toNat]?)=fun m=>xs[i+m]?:=by
  funext m
  have:((i:Int)+(m:Int)*1).toNat=i+m:=by omega
  rw[this]
 rw[e]
 have:=pick_run xs i k
 rw[List.filterMap_map] at this
 have e2:((fun x=>xs[x]?) ∘ fun x=>i+x)=fun m=>xs[i+m]?:=rfl
 rw[e2] at this
 rw[this]
theorem gX {t sl:Addr} {items:Array Value} {vl vu:Value} {lo hi:Option Int} {Q:Value->Shared->Prop} (ht:IsTup s.heap t items) (hs:s.heap.IsSliceOf sl vl vu .none) (pl:IsPart vl lo) (pu:IsPart vu hi)
  (hw:¬ (sIx items.size 0 lo=0/\sIx items.size items.size hi=items.size))
  (h:Q (.ref s.heap.objs.size) { s with heap:=s.heap.push { cls:=.type "tuple", data:=.seq ((items.toList.drop (sIx items.size 0 lo)).take (sIx items.size items.size hi - sIx items.size 0 lo)).toArray } })
  (hsz:items.size<=sizeLine):wpAny (model prog w) A (getItem (.ref t) (.ref sl)) Q E s:=by
 have htake:sizeOk (.seq ((items.toList.drop (sIx items.size 0 lo)).take (sIx items.size items.size hi - sIx items.size 0 lo)).toArray):=by
  show((items.toList.drop (sIx items.size 0 lo)).take (sIx items.size items.size hi - sIx items.size 0 lo)).toArray.size<=sizeLine
  rw[List.size_toArray,List.length_take,List.length_drop,Array.length_toList]
  omega
 have hj:sIx items.size items.size hi<=items.size:=Bj _ _ (Nat.le_refl _) hi
 obtain⟨os,hos,hcs,hds⟩:=id hs
 have hTs:s.TypeIs (.ref sl) "slice" := ⟨os,hos,hcs⟩
 unfold getItem
 try with_reducible refine wpAny_holding ?_
 first | refine wpAny_bind (wpAny_pure ?_) | skip
 refine wpAny_bind (wpAny_sequenceKey ht.typeIs (by decide) ?_)
 refine wpAny_bind (wpAny_callSpecial?_slot (name:=Str.ofString "__getitem__") ht.typeIs PyProof.Rows.slot_tuple_getitem
  (wpAny_call_entry PyProof.Rows.slot_tuple_getitem ht.typeIs entry_tuple_getitem ?_ (args_tuple_getitem _ _)))
 show wpAny _ _ (Builtin.Tuple.tupleItemsOf (.ref t) >>= _) _ _ s
 refine wpAny_bind (tupleItemsOf_ ht ?_)
 refine wpAny_bind (wpAny_typeOf hTs ?_)
 rw[if_pos (by decide)]
 refine wpAny_bind (eB hs pl pu ?_)
 have hno:¬ ((((sIx items.size 0 lo:Nat):Int) == 0&&(1:Int) == 1&&(sIx items.size items.size hi - sIx items.size 0 lo) == items.size)=true):=by
  intro q
  rw[Bool.and_eq_true,Bool.and_eq_true] at q
  have q1:((sIx items.size 0 lo:Nat):Int)=0:=eq_of_beq q.1.1
  have q2:sIx items.size items.size hi - sIx items.size 0 lo=items.size:=eq_of_beq q.2
  exact hw ⟨by omega,by omega⟩
 show wpAny _ _ (if (((sIx items.size 0 lo:Nat):Int) == 0&&(1:Int) == 1&&(sIx items.size items.size hi - sIx items.size 0 lo) == items.size)=true then _ else _) _ _ s
 rw[if_neg hno,vG]
 first
  | exact wpAny_bind (m:=Builtin.Tuple.tupleExact _) (wpAny_newObj_type (wpAny_pure ⟨_,rfl,wpAny_pure h⟩) htake)
  | exact wpAny_bind (m:=Builtin.Tuple.tupleExact _) (wpAny_newObj_type (wpAny_bind (wpAny_pure (wpAny_pure ⟨_,rfl,wpAny_pure h⟩))) htake)
  | exact wpAny_bind (wpAny_bind (m:=Builtin.Tuple.tupleExact _) (wpAny_newObj_type (wpAny_pure (wpAny_pure ⟨_,rfl,wpAny_pure h⟩)) htake))
  | exact wpAny_bind (wpAny_bind (m:=Builtin.Tuple.tupleExact _) (wpAny_newObj_type (wpAny_pure ⟨_,rfl,wpAny_pure h⟩) htake))
end
end HT
namespace L2
open PySem PySem.Spec PyProof.Rows
noncomputable abbrev TO:=St->Hp->(Option Int->Hp->Prop)->Prop
noncomputable def PO (X:Cx) (e:Option Expr) (t:TO):Prop:=
 ∀(pins:List (Addr × Obj)) (s:Shared) (σ:St) (H:Hp) (Q:Option Int->Hp->Prop),Inv X pins σ H s->t σ H Q →
  wpAny (model X.prog X.w) X.A (evalPart e X.env) (fun u s'=>∃o H',Inv X pins σ H' s'/\IsPart u o/\Q o H') X.xe s
noncomputable def xU:TO:=fun _ H Q=>Q none H
noncomputable def Ce (t:TE):TO:=fun σ H Q=>t σ H fun x H1=>∃i,x=.int i/\Q (some i) H1
theorem intsAre_of {ns:List Int}:∀{us:List Value},Vals (ns.map V.int) us->IntsAre us ns:=by
 induction ns with
 | nil=>intro us r;rw[List.map_nil] at r;cases r;exact .nil
 | cons n ns ih=>
  intro us r
  rw[List.map_cons] at r
  cases r with
  | cons r1 r2=>
   obtain⟨t,e⟩:=r1
   subst e
   exact .cons n t (ih r2)
section
variable {X:Cx} {e:Expr} {te:TE} {lo hi:Option Expr} {tl th:TO} {pos p2:Pos}
theorem yf:PO X none xU:=by
 intro pins s σ H Q I h
 rw[evalPart_none]
 exact wpAny_pure ⟨none,H,I,.none,h⟩
theorem xK (h:PE X e te):PO X (some e) (Ce te):=by
 intro pins s σ H Q I hw
 rw[evalPart_some]
 refine thn (h pins s σ H _ I hw) fun u s1 ⟨x,H1,I1,r1,q1⟩=>?_
 obtain⟨i,rfl,q⟩:=q1
 obtain⟨t,rfl⟩:=r1
 exact⟨some i,H1,I1,.int i t,q⟩
noncomputable def SlR (X:Cx) (r:V->Option Int->Option Int->Hp->VK->Prop):Prop:=
 ∀(pins:List (Addr × Obj)) (s:Shared) (σ:St) (H:Hp) (x:V) (v vl vu:Value) (lo hi:Option Int) (sl:Addr) (Q:VK),Inv X pins σ H s->RelV x v->s.heap.IsSliceOf sl vl vu .none->IsPart vl lo->IsPart vu hi->r x lo hi H Q →
  ∃T id,typeLookup (.type T) "__getitem__" = pure (some (.builtin id))/\s.TypeIs v T/\wpAny (model X.prog X.w) X.A (getItem v (.ref sl)) (EP X pins σ Q) X.xe s
theorem SlR.or {r r':V->Option Int->Option Int->Hp->VK->Prop} (h:SlR X r) (h':SlR X r'):SlR X (fun x lo hi H Q=>r x lo hi H Q\/r' x lo hi H Q):=by
 intro pins s σ H x v vl vu lo hi sl Q I rx hs pl pu q
 rcases q with q | q
 ·exact h pins s σ H x v vl vu lo hi sl Q I rx hs pl pu q
 ·exact h' pins s σ H x v vl vu lo hi sl Q I rx hs pl pu q
noncomputable def tSl (r:V->Option Int->Option Int->Hp->VK->Prop) (te:TE) (tl th:TO):TE:=fun σ H Q=>te σ H fun x H1=>tl σ H1 fun l H2=>th σ H2 fun u H3=>r x l u H3 Q
theorem oN {r:V->Option Int->Option Int->Hp->VK->Prop} (hr:SlR X r) (he:PE X e te) (hl:PO X lo tl) (hu:PO X hi th):PE X (.Subscript e (.Slice lo hi none p2) pos) (tSl r te tl th):=by
 intro pins s σ H Q I h
 refine Subscript_ (thn (he pins s σ H _ I h) fun v s1 ⟨x,H1,I1,r1,q1⟩=>?_)
 refine wpAny_Slice (thn (hl pins s1 σ H1 _ I1 q1) fun vl s2 ⟨l,H2,I2,pl,q2⟩=>thn (hu pins s2 σ H2 _ I2 q2) fun vu s3 ⟨u,H3,I3,pu,q3⟩=>?_)
 rw[evalPart_none]
 refine wpAny_pure ?_
 have I4:Inv X pins σ H3 { s3 with heap:=s3.heap.push { cls:=.type "slice", data:=.fields #[vl,vu,.none] } }:=I3.kept (t':=s3.toks) fun b ob q=>Heap.get?_push_of_some _ q
 obtain⟨T,id,hT,ht,hg⟩:=hr pins { s3 with heap:=s3.heap.push { cls:=.type "slice", data:=.fields #[vl,vu,.none] } } σ H3 x v vl vu l u s3.heap.objs.size Q I4 r1 (Heap.IsSliceOf.new ..) pl pu q3
 show wpAny (model X.prog X.w) X.A (subscriptTail e (.Slice lo hi none p2) v (.ref s3.heap.objs.size)) (EP X pins σ Q) X.xe { s3 with heap:=s3.heap.push { cls:=.type "slice", data:=.fields #[vl,vu,.none] } }
 exact tail_any (ops:=[.ref s3.heap.objs.size,v]) ht hT hg (by with_unfolding_all rfl)
noncomputable def la (xs:List V) (lo hi:Option Int):List V:=(xs.drop (HT.sIx xs.length 0 lo)).take (HT.sIx xs.length xs.length hi - HT.sIx xs.length 0 lo)
theorem jb (xs:List V) (lo hi:Option Int):(la xs lo hi).length<=xs.length:=by
 unfold la
 rw[List.length_take,List.length_drop]
 omega
noncomputable def DT (K:PySem.W.Frag):V->Option Int->Option Int->Hp->VK->Prop:=fun x lo hi H Q=>∃a xs,x=.ref a/\SqT K H a xs ∧
 ¬ (HT.sIx xs.length 0 lo=0/\HT.sIx xs.length xs.length hi=xs.length)/\∀p,H p=none->Q (.ref p) (upd H p (.tup (la xs lo hi)))
theorem Bd:SlR X (DT X.K):=by
 intro pins s σ H x v vl vu lo hi sl Q I rx hs pl pu h
 obtain⟨a,xs,rfl,hx,hw,q⟩:=h
 cases rx
 obtain⟨its,r,ht,hz⟩:=I.tuple hx
 have hlen:its.toArray.size=xs.length:=by rw[List.size_toArray];exact r.length.symm
 refine⟨"tuple", _,PyProof.Rows.slot_tuple_getitem.lookup,ht.typeIs,?_⟩
 refine HT.gX ht hs pl pu (by rw[hlen];exact hw) ?_ (by rw[hlen];exact hz)
 rw[hlen]
 refine⟨.ref s.heap.objs.size,_,I.laid (t':=s.toks) (o:=.tup (la xs lo hi)) (fun b ob q=>Heap.get?_push_of_some _ q) (Nat.le_refl _) ?_,rfl,q _ (I.hok.fresh (Nat.le_refl _))⟩
 exact⟨Nat.le_trans (jb xs lo hi) hz,_,(r.drop (HT.sIx xs.length 0 lo)).take (HT.sIx xs.length xs.length hi - HT.sIx xs.length 0 lo),lq.new _ _⟩
noncomputable def zE (K:PySem.W.Frag):R2:=fun x y H Q=>∃a b xs ys,x=.ref a/\y=.ref b/\SqT K H a xs/\SqT K H b ys/\xs≠[]/\xs.length+ys.length<=sizeLine ∧
 (ys=[]->Q (.ref a) H)/\(ys≠[]->∀p,H p=none->Q (.ref p) (upd H p (.tup (xs++ys))))
theorem Vals.nW {xs:List V} {us:List Value} (r:Vals xs us):us=[]↔xs=[]:=by
 cases r with
 | nil=>simp
 | cons _ _=>simp
theorem yb:OpR X (binaryOp .Add) (zE X.K):=by
 intro pins s σ H x y v u Q I rx ry h
 obtain⟨a,b,xs,ys,rfl,rfl,ha,hb,hx,hz,q1,q2⟩:=h
 cases rx
 cases ry
 obtain⟨its,r1,p1,_⟩:=I.tuple ha
 obtain⟨its2,r2,p2,_⟩:=I.tuple hb
 refine HT.xI p1 p2 (fun z=>hx (r1.nW.mp z)) (fun z=>⟨.ref a,H,I,rfl,q1 (r2.nW.mp z)⟩) (fun z=>?_) (by rw[<- r1.length,<- r2.length];exact hz)
 refine⟨.ref s.heap.objs.size,_,I.laid (t':=s.toks) (o:=.tup (xs++ys)) (fun b ob q=>Heap.get?_push_of_some _ q) (Nat.le_refl _) ?_,rfl,q2 (fun w=>z (r2.nW.mpr w)) _ (I.hok.fresh (Nat.le_refl _))⟩
 exact⟨by rw[List.length_append];exact hz,_,r1.append r2,lq.new _ _⟩
end
noncomputable def ixN (n:Nat) (i:Int):Option Nat:=if 0<=i then (if i<n then some i.toNat else none) else if -(n:Int)<=i then some (i+n).toNat else none
noncomputable def atI {α:Type} (xs:List α) (i:Int):Option α:=(ixN xs.length i).bind fun j=>xs[j]?
theorem nA {n:Nat} {i:Int} {j:Nat} (h:ixN n i=some j):seqIndex? i n=some j/\j<n/\-(n:Int)<=i/\i<n:=by
 unfold ixN at h
 by_cases h0:0<=i
 ·rw[if_pos h0] at h
  by_cases h1:i<n
  ·rw[if_pos h1] at h
   have e:i.toNat=j:=Option.some.inj h
   exact⟨by rw[seqIndex_of h0 h1,e],by omega,by omega,h1⟩
  ·rw[if_neg h1] at h;cases h
 ·rw[if_neg h0] at h
  by_cases h1:-(n:Int)<=i
  ·rw[if_pos h1] at h
   have e:(i+n).toNat=j:=Option.some.inj h
   exact⟨by rw[seqIndex_neg (by omega) h1,e],by omega,h1,by omega⟩
  ·rw[if_neg h1] at h;cases h
theorem m5 {α:Type} {xs:List α} {i:Int} {v:α} (h:atI xs i=some v):∃j,seqIndex? i xs.length=some j/\xs[j]?=some v/\j<xs.length/\-(xs.length:Int)<=i/\i<xs.length:=by
 unfold atI at h
 cases e:ixN xs.length i with
 | none=>rw[e] at h;cases h
 | some j=>
  rw[e] at h
  obtain⟨h1,h2,h3,h4⟩:=nA e
  exact⟨j,h1,h,h2,h3,h4⟩
theorem yi {α:Type} {xs:List α} {j:Nat} {v:α} (h:xs[j]?=some v):atI xs (j:Int)=some v:=by
 have hj:j<xs.length:=(List.getElem?_eq_some_iff.mp h).1
 have e:ixN xs.length (j:Int)=some j:=by
  unfold ixN
  rw[if_pos (by omega),if_pos (by omega)];simp
 unfold atI;rw[e];exact h
noncomputable def rZ (b:Expr):Prop:=∀o i,subscripted b false o i=operate [o,i] (getItem o i)
noncomputable def IxR (X:Cx) (r:R2):Prop:=
 ∀(value slice:Expr) (pins:List (Addr × Obj)) (s:Shared) (σ:St) (H:Hp) (x y:V) (v u:Value) (Q:VK),Inv X pins σ H s->RelV x v->RelV y u->r x y H Q →
  subscripted slice false v u=operate [v,u] (getItem v u)->wpAny (model X.prog X.w) X.A (subscriptTail value slice v u) (EP X pins σ Q) X.xe s
noncomputable def MtR (X:Cx) (id:String) (r:V->List V->Hp->VK->Prop):Prop:=
 ∀(pins:List (Addr × Obj)) (s:Shared) (σ:St) (H:Hp) (x:V) (xs:List V) (v:Value) (us:List Value) (Q:VK),Inv X pins σ H s->RelV x v->Vals xs us->r x xs H Q →
  wpAny (model X.prog X.w) X.A (call (.builtin id) (v::us)) (EP X pins σ Q) X.xe s
section
variable {X:Cx} {a b:Expr} {ta tb:TE} {pos:Pos}
theorem IxR.or {r r':R2} (h:IxR X r) (h':IxR X r'):IxR X (fun x y H Q=>r x y H Q\/r' x y H Q):=by
 intro value slice pins s σ H x y v u Q I rx ry q hs
 rcases q with q | q
 ·exact h value slice pins s σ H x y v u Q I rx ry q hs
 ·exact h' value slice pins s σ H x y v u Q I rx ry q hs
theorem CV {r:R2} (hr:IxR X r) (ha:PE X a ta) (hb:PE X b tb) (hs:rZ b):PE X (.Subscript a b pos) (tOp r ta tb):=by
 intro pins s σ H Q I h
 exact Subscript_ (AO ha hb I h fun v u s2 x y H2 I2 rx ry q=>hr a b pins s2 σ H2 x y v u Q I2 rx ry q (hs _ _))
noncomputable def BR (K:PySem.W.Frag):R2:=fun x y H Q=>∃p xs i v,x=.ref p/\y=.int i/\SqL K H p xs/\atI xs i=some v/\Q v H
noncomputable def C4 (K:PySem.W.Frag):R2:=fun x y H Q=>∃p xs i v,x=.ref p/\y=.int i/\SqT K H p xs/\atI xs i=some v/\Q v H
noncomputable def C9:R2:=fun x y H Q=>∃z i c,x=.str z/\y=.int i/\z.length<=sizeLine/\atI z.cps.toList i=some c/\Q (.str ⟨#[c]⟩) H
theorem yw:IxR X (BR X.K):=by
 intro value slice pins s σ H x y v u Q I rx ry h hs
 obtain⟨p,xs,i,z,rfl,rfl,hq,he,q⟩:=h
 cases rx
 obtain⟨t,rfl⟩:=ry
 obtain⟨its,r,pl,hz⟩:=I.list hq
 obtain⟨j,h1,h2,h3,h4,h5⟩:=m5 he
 obtain⟨w,ew,rw'⟩:=r.get h2
 have hl:=r.length
 have hn:=gE
 have fin:EP X pins σ Q w s:=⟨z,H,I,rw',q⟩
 by_cases h0:0<=i
 ·have hj:i.toNat=j:=by
   rw[seqIndex_of h0 h5] at h1
   exact Option.some.inj h1
  exact item_listR pl.isList h0 (by omega) (by rw[hj];simpa using ew) fin hs
 ·have hj:(i+(its.toArray.size:Int)).toNat=j:=by
   rw[seqIndex_neg (by omega) h4] at h1
   rw[List.size_toArray,<- hl]
   exact Option.some.inj h1
  exact subscriptTail_builtinR (x:=w) pl.isList.typeIs slot_list_getitem.lookup
   (wpAny_getItem_list_neg (Q:=fun r s'=>r=w/\EP X pins σ Q r s') pl.isList (by omega) (by rw[List.size_toArray]<;>omega) (by omega) (by rw[hj];simpa using ew) ⟨rfl,fin⟩) hs
theorem Bc:IxR X (C4 X.K):=by
 intro value slice pins s σ H x y v u Q I rx ry h hs
 obtain⟨p,xs,i,z,rfl,rfl,hq,he,q⟩:=h
 cases rx
 obtain⟨t,rfl⟩:=ry
 obtain⟨its,r,pl,hz⟩:=I.tuple hq
 obtain⟨j,h1,h2,h3,h4,h5⟩:=m5 he
 obtain⟨w,ew,rw'⟩:=r.get h2
 have hl:=r.length
 have hn:=gE
 have fin:EP X pins σ Q w s:=⟨z,H,I,rw',q⟩
 exact subscriptTail_builtinR (x:=w) pl.typeIs slot_tuple_getitem.lookup
  (getItem_tuple (j:=j) (Q:=fun r s'=>r=w/\EP X pins σ Q r s') pl (by omega) (by omega) (by rw[List.size_toArray,<- hl];exact h1) (by simpa using ew) ⟨rfl,fin⟩) hs
theorem Aa:IxR X C9:=by
 intro value slice pins s σ H x y v u Q I rx ry h hs
 obtain⟨z,i,c,rfl,rfl,hz,he,q⟩:=h
 obtain⟨t,rfl⟩:=rx
 obtain⟨t',rfl⟩:=ry
 obtain⟨j,h1,h2,h3,h4,h5⟩:=m5 he
 have hl:z.cps.toList.length=z.length:=by simp[Str.length]
 rw[hl] at h1 h4 h5
 have hn:=gE
 exact tail_any (typeIs_str s z t) slot_str_getitem.lookup (getItem_str (c:=c) (by
  have e1:decide (i < -(2 ^ 63:Int))=false:=decide_eq_false (by omega)
  have e2:decide (i ≥ 2 ^ 63)=false:=decide_eq_false (by omega)
  rw[e1,e2,Bool.or_false]) (by rw[h1];simpa using h2) ⟨.str ⟨#[c]⟩,H,I.tok _,⟨_,rfl⟩,q⟩) hs
noncomputable def rIx (K:PySem.W.Frag):R2:=fun x y H Q=>BR K x y H Q\/C4 K x y H Q\/C9 x y H Q
theorem dw:IxR X (rIx X.K):=yw.or (Bc.or Aa)
theorem qr (its:List Value) (n j:Nat) (u:Value):Obj.mapSeq (·.setIfInBounds j u) { cls:=.type "list", data:=.seq its.toArray n }={ cls:=.type "list", data:=.seq (its.set j u).toArray n }:=by
 simp[Obj.mapSeq]
theorem Inv.lst {pins:List (Addr × Obj)} {σ:St} {H:Hp} {s:Shared} {p:Addr} {xs:List V} (I:Inv X pins σ H s) (h:H p=some (.lst xs)) :
  ∃(its:List Value) (n:Nat),Vals xs its/\s.heap.get? p=some { cls:=.type "list", data:=.seq its.toArray n }/\xs.length<=sizeLine:=by
 obtain⟨z,its,n,r,e⟩:=I.hok p _ h
 exact⟨its,n,r,e,z⟩
theorem Inv.Bp {pins:List (Addr × Obj)} {σ:St} {H:Hp} {s:Shared} {p:Addr} {xs ys:List V} {its its':List Value} {n n':Nat} {f:Obj->Obj} (I:Inv X pins σ H s) (h:H p=some (.lst xs))
  (ho:s.heap.get? p=some { cls:=.type "list", data:=.seq its.toArray n }) (hf:f { cls:=.type "list", data:=.seq its.toArray n }={ cls:=.type "list", data:=.seq its'.toArray n' }) (r:Vals ys its') (hz:ys.length<=sizeLine) (t:Nat) :
  Inv X pins σ (upd H p (.lst ys)) { s with heap:=s.heap.update p f,toks:=t }:=by
 have e:(s.heap.update p f).get? p=some { cls:=.type "list", data:=.seq its'.toArray n' }:=by
  rw[Heap.get?_update_self f ho (by rw[hf]<;>rfl),hf]
 refine I.write (x:=p) (e:=p) (by rw[h];trivial) (.inl rfl) (fun b u hb q=>(Heap.get?_update_other _ _ (Ne.symm hb)).trans q) ⟨_,e⟩ ?_
 exact⟨hz,its',n',r,e⟩
noncomputable def zy:V->V->V->Hp->(Hp->Prop)->Prop:=fun o i v H Q=>∃p xs k j,o=.ref p/\i=.int k/\H p=some (.lst xs)/\ixN xs.length k=some j/\Q (upd H p (.lst (xs.set j v)))
theorem set_list:BD X zy:=by
 intro pins s σ H o i v ov iv u Q I ro ri rv h
 obtain⟨p,xs,k,j,rfl,rfl,hp,hj,q⟩:=h
 cases ro
 obtain⟨t,rfl⟩:=ri
 obtain⟨its,n,r,ho,hz⟩:=I.lst hp
 obtain⟨h1,h2,h3,h4⟩:=nA hj
 have hl:=r.length
 have hn:=gE
 have I':Inv X pins σ (upd H p (.lst (xs.set j v))) { s with heap:=s.heap.update p (Obj.mapSeq (·.setIfInBounds j u)) }:=
  I.Bp hp ho (qr its n j u) (r.set rv j) (by rw[List.length_set];exact hz) s.toks
 by_cases h0:0<=k
 ·have hk:k.toNat=j:=by
   rw[seqIndex_of h0 h4] at h1
   exact Option.some.inj h1
  exact PySem.W.ki_setAt ho h0 (by omega) (by rw[List.size_toArray,<- hl];exact h4) (by rw[hk];exact⟨_,I',q⟩)
 ·have hk:(k+(its.toArray.size:Int)).toNat=j:=by
   rw[seqIndex_neg (by omega) h3] at h1
   rw[List.size_toArray,<- hl]
   exact Option.some.inj h1
  exact PySem.W.ki_setBack ho (by omega) (by rw[List.size_toArray,<- hl];exact h3) (by omega) (by rw[hk];exact⟨_,I',q⟩)
theorem nz (lo hi:Option Int) (n:Nat):(sliceBounds lo hi none n).1=((HT.sIx n 0 lo:Nat):Int)/\(sliceBounds lo hi none n).2.1=((HT.sIx n n hi:Nat):Int)/\(sliceBounds lo hi none n).2.2=1:=by
 refine⟨?_,?_,rfl⟩
 ·cases lo with
  | none=>simp[sliceBounds,HT.sIx]
  | some i=>
   simp only[sliceBounds,HT.sIx,Option.getD_none,show(1:Int) > 0 by decide,if_true]
   by_cases h:i<0
   ·simp only[h,if_true]<;>omega
   ·simp only[h,if_false]<;>omega
 ·cases hi with
  | none=>simp[sliceBounds,HT.sIx]
  | some i=>
   simp only[sliceBounds,HT.sIx,Option.getD_none,show(1:Int) > 0 by decide,if_true]
   by_cases h:i<0
   ·simp only[h,if_true]<;>omega
   ·simp only[h,if_false]<;>omega
theorem kW (its:List Value) (lo hi:Option Int):slicePick its.toArray lo hi none=((its.drop (HT.sIx its.length 0 lo)).take (HT.sIx its.length its.length hi - HT.sIx its.length 0 lo)).toArray:=by
 obtain⟨h1,h2,h3⟩:=nz lo hi its.toArray.size
 unfold slicePick
 rw[h1,h2,h3]
 simp only[sliceRange_one,pick_run,List.size_toArray]<;>rfl
noncomputable def EI (K:PySem.W.Frag):V->Option Int->Option Int->Hp->VK->Prop:=fun x lo hi H Q=>∃a xs,x=.ref a/\SqL K H a xs/\∀p,H p=none->Q (.ref p) (upd H p (.lst (la xs lo hi)))
theorem yq:SlR X (EI X.K):=by
 intro pins s σ H x v vl vu lo hi sl Q I rx hs pl pu h
 obtain⟨a,xs,rfl,hx,q⟩:=h
 cases rx
 obtain⟨its,r,ht,hz⟩:=I.list hx
 have hlen:=r.length
 refine⟨"list", _,slot_list_getitem.lookup,ht.isList.typeIs,?_⟩
 refine wpAny_getItem_list_slice ht.isList hs pl pu .none (by simp) ?_ (by rw[List.size_toArray]<;>omega)
 rw[kW,<- hlen]
 refine⟨.ref s.heap.objs.size,_,I.laid (t':=s.toks) (o:=.lst (la xs lo hi)) (fun b ob q=>Heap.get?_push_of_some _ q) (Nat.le_refl _) ?_,rfl,q _ (I.hok.fresh (Nat.le_refl _))⟩
 exact⟨Nat.le_trans (jb xs lo hi) hz,_,0,(r.drop (HT.sIx xs.length 0 lo)).take (HT.sIx xs.length xs.length hi - HT.sIx xs.length 0 lo),Heap.get?_push_size _ rfl⟩
noncomputable def gp:V->Bool
 | .non=>true
 | .bl _=>true
 | .int _=>true
 | .str _=>true
 | _=>false
noncomputable def eqV:V->V->Bool
 | .non,.non=>true
 | .bl a,.bl b=>a == b
 | .bl a,.int b=>(if a then 1 else 0) == b
 | .int a,.bl b=>a == (if b then 1 else 0)
 | .int a,.int b=>a == b
 | .str a,.str b=>a == b
 | _,_=>false
theorem Bt {A:Around} {s:Shared} {y x:V} {u v:Value} (ry:RelV y u) (rx:RelV x v) (fy:gp y=true) (fx:gp x=true):SeqAt.EqAt A s u v (eqV y x):=by
 cases y with
 | non=>
  cases ry
  cases x with
  | non=>cases rx;exact SeqAt.EqAt.same _
  | bl b=>cases rx;exact SeqAt.EqAt.none_bool b
  | int b=>obtain⟨t,rfl⟩:=rx;exact SeqAt.EqAt.none_int b t
  | str b=>obtain⟨t,rfl⟩:=rx;exact SeqAt.EqAt.none_str b t
  | _=>exact absurd (show false=true from fx) Bool.false_ne_true
 | bl a=>
  cases ry
  cases x with
  | non=>cases rx;exact SeqAt.EqAt.bool_none a
  | bl b=>cases rx;exact SeqAt.EqAt.bool_bool a b
  | int b=>obtain⟨t,rfl⟩:=rx;exact SeqAt.EqAt.bool_int a b t
  | str b=>obtain⟨t,rfl⟩:=rx;exact SeqAt.EqAt.bool_str a b t
  | _=>exact absurd (show false=true from fx) Bool.false_ne_true
 | int a=>
  obtain⟨t',rfl⟩:=ry
  cases x with
  | non=>cases rx;exact SeqAt.EqAt.int_none a t'
  | bl b=>cases rx;exact SeqAt.EqAt.int_bool a t' b
  | int b=>obtain⟨t,rfl⟩:=rx;exact SeqAt.EqAt.int_int a t' b t
  | str b=>obtain⟨t,rfl⟩:=rx;exact SeqAt.EqAt.int_str a t' b t
  | _=>exact absurd (show false=true from fx) Bool.false_ne_true
 | str a=>
  obtain⟨t',rfl⟩:=ry
  cases x with
  | non=>cases rx;exact SeqAt.EqAt.str_none a t'
  | bl b=>cases rx;exact SeqAt.EqAt.str_bool a t' b
  | int b=>obtain⟨t,rfl⟩:=rx;exact SeqAt.EqAt.str_int a t' b t
  | str b=>obtain⟨t,rfl⟩:=rx;exact SeqAt.EqAt.str_str a t' b t
  | _=>exact absurd (show false=true from fx) Bool.false_ne_true
 | _=>exact absurd (show false=true from fy) Bool.false_ne_true
noncomputable def eqU (x:V) (u:Value):Bool:=match u with
 | .none=>eqV .non x
 | .bool b=>eqV (.bl b) x
 | .int i _=>eqV (.int i) x
 | .str z _=>eqV (.str z) x
 | _=>false
theorem vo {x y:V} {u:Value} (r:RelV y u) (f:gp y=true):eqU x u=eqV y x:=by
 cases y with
 | non=>cases r;rfl
 | bl b=>cases r;rfl
 | int i=>obtain⟨t,rfl⟩:=r;rfl
 | str z=>obtain⟨t,rfl⟩:=r;rfl
 | _=>exact absurd (show false=true from f) Bool.false_ne_true
theorem nu {x:V}:∀{xs:List V} {us:List Value},Vals xs us->xs.all gp=true->us.any (eqU x)=xs.any fun y=>eqV y x
 | _,_,.nil,_=>rfl
 | y::xs,u::us,.cons r t,f=>by
  rw[List.all_cons,Bool.and_eq_true] at f
  rw[List.any_cons,List.any_cons,vo r f.1,nu t f.2]
theorem j1 {A:Around} {s:Shared} {x:V} {v:Value} (rx:RelV x v) (fx:gp x=true):∀{xs:List V} {us:List Value},Vals xs us->xs.all gp=true->∀u∈us,SeqAt.EqAt A s u v (eqU x u)
 | _,_,.nil,_=>fun u hu=>by cases hu
 | y::xs,u::us,.cons r t,f=>fun u' hu=>by
  rw[List.all_cons,Bool.and_eq_true] at f
  rcases List.mem_cons.mp hu with rfl | hu
  ·rw[vo r f.1];exact Bt r rx f.1 fx
  ·exact j1 rx fx t f.2 u' hu
noncomputable def inV (x:V) (xs:List V):Bool:=xs.any fun y=>eqV y x
noncomputable def rIn (K:PySem.W.Frag) (neg:Bool):R2:=fun x y H Q=>∃p xs,y=.ref p/\(SqL K H p xs\/SqT K H p xs)/\gp x=true/\xs.all gp=true/\Q (.bl (if neg then !inV x xs else inV x xs)) H
theorem nV:OpR X (compareOp .NotIn) (rIn X.K true):=by
 intro pins s σ H x y v u Q I rx ry h
 obtain⟨p,xs,rfl,hq,fx,fs,q⟩:=h
 cases ry
 rcases hq with hq | hq
 ·obtain⟨its,r,pl,hz⟩:=I.list hq
  refine SeqAt.notIn_listAt (eqU x) pl.isList (fun w hw=>j1 rx fx r fs w (by simpa using hw)) ⟨.bl _,H,I,rfl,?_⟩
  rw[show its.toArray.any (eqU x)=its.any (eqU x) by simp,nu r fs]
  exact q
 ·obtain⟨its,r,pl,hz⟩:=I.tuple hq
  refine SeqAt.notIn_tupleAt (eqU x) pl (fun w hw=>j1 rx fx r fs w (by simpa using hw)) ⟨.bl _,H,I,rfl,?_⟩
  rw[show its.toArray.any (eqU x)=its.any (eqU x) by simp,nu r fs]
  exact q
theorem nv:aR X (.builtin "len") (fun xs H Q=>∃p ys,xs=[.ref p]/\(SqL X.K H p ys\/SqT X.K H p ys)/\Q (.int ys.length) H):=by
 intro pins s σ H xs us Q I r h
 obtain⟨p,ys,rfl,hq,q⟩:=h
 obtain⟨u,rfl,rx⟩:=vals1 r
 cases rx
 have hn:=gE
 rcases hq with hq | hq
 ·obtain⟨its,r',pl,hz⟩:=I.list hq
  have hlen:=r'.length
  exact Calls.call_len_list pl.isList (by simp only[List.size_toArray]<;>omega) ⟨.int ys.length,H,I.tok _,⟨s.toks+1,by rw[List.size_toArray,hlen]⟩,q⟩
 ·obtain⟨its,r',pl,hz⟩:=I.tuple hq
  have hlen:=r'.length
  exact len_tuple pl (by simp only[List.size_toArray]<;>omega) ⟨.int ys.length,H,I.tok _,⟨s.toks+1,by rw[List.size_toArray,hlen]⟩,q⟩
theorem nU:aR X (.builtin "len") (fun xs H Q=>∃z,xs=[.str z]/\z.length<=sizeLine/\Q (.int z.length) H):=by
 intro pins s σ H xs us Q I r h
 obtain⟨z,rfl,hz,q⟩:=h
 obtain⟨u,rfl,t,rfl⟩:=vals1 r
 have hn:=gE
 exact len_str (by omega) ⟨.int z.length,H,I.tok _,⟨_,rfl⟩,q⟩
theorem aR.or {f:Value} {r r':List V->Hp->VK->Prop} (h:aR X f r) (h':aR X f r'):aR X f (fun xs H Q=>r xs H Q\/r' xs H Q):=by
 intro pins s σ H xs us Q I rs q
 rcases q with q | q
 ·exact h pins s σ H xs us Q I rs q
 ·exact h' pins s σ H xs us Q I rs q
theorem ey:aR X (.type "tuple") (fun xs H Q=>∃p ys,xs=[.ref p]/\((SqL X.K H p ys/\∀l,H l=none->Q (.ref l) (upd H l (.tup ys)))\/(SqT X.K H p ys/\Q (.ref p) H))):=by
 intro pins s σ H xs us Q I r h
 obtain⟨p,ys,rfl,h⟩:=h
 obtain⟨u,rfl,rx⟩:=vals1 r
 cases rx
 rcases h with⟨hq,q⟩ | ⟨hq,q⟩
 ·obtain⟨its,r',pl,hz⟩:=I.list hq
  have hlen:=r'.length
  refine call_tuple_list pl.isList (fun h' kp=>?_) (by simp only[List.size_toArray]<;>omega)
  have I1:Inv X pins σ H { s with heap:=h' }:=I.kept (t':=s.toks) kp
  have I2:Inv X pins σ (upd H h'.objs.size (.tup ys)) { s with heap:=h'.push { cls:=.type "tuple", data:=.seq its.toArray } }:=
   I1.laid (t':=s.toks) (fun b o e=>Heap.get?_push_of_some _ e) (Nat.le_refl _) (show br X.prog X.w _ _ _ (.tup ys) from⟨hz,its,r',lq.new _ _⟩)
  exact⟨.ref h'.objs.size,_,I2,rfl,q _ (I1.hok.fresh (Nat.le_refl _))⟩
 ·obtain⟨its,r',pl,hz⟩:=I.tuple hq
  exact call_tuple_same pl ⟨.ref p,H,I,rfl,q⟩
noncomputable def tyV (K:PySem.W.Frag) (T:String) (x:V) (H:Hp):Prop:=match x with
 | .str _=>T="str"
 | .int _=>T="int"
 | .ref p=>(T="list" /\ ∃xs,SqL K H p xs)\/(T="tuple" /\ ∃o,K.lookup p=some o/\o.cls=.type "tuple" /\ o.dict=none) ∨
   (T="dict" /\ ((∃kvs,H p=some (.dK kvs))\/∃kvs,H p=some (.dT kvs)))\/(T="set" /\ ∃S n,H p=some (.set S n))\/(T="tuple" /\ ∃xs,H p=some (.tup xs))
 | _=>False
theorem vk {pins:List (Addr × Obj)} {σ:St} {H:Hp} {s:Shared} {T:String} {x:V} {v:Value} (I:Inv X pins σ H s) (r:RelV x v) (ty:tyV X.K T x H) :
  s.TypeIs v T/\∀a,v=.ref a->∃ob,s.heap.get? a=some ob/\ob.dict=none:=by
 cases x with
 | str z=>
  obtain⟨t,rfl⟩:=r
  cases (show T="str" from ty)
  exact⟨typeIs_str s z t,fun _ e=>nomatch e⟩
 | int i=>
  obtain⟨t,rfl⟩:=r
  cases (show T="int" from ty)
  exact⟨typeIs_int s i t,fun _ e=>nomatch e⟩
 | ref p=>
  cases r
  rcases ty with⟨rfl,xs,hq⟩ | ⟨rfl,o,hk,hc,hd⟩ | ⟨rfl,hk⟩ | ⟨rfl,S,n,hk⟩ | ⟨rfl,xs,hk⟩
  ·obtain⟨its,_,pl,_⟩:=I.list hq
   refine⟨pl.isList.typeIs,fun a e=>?_⟩
   cases e
   obtain⟨o,n,e,c,hd,_⟩:=pl
   exact⟨o,e,hd⟩
  ·refine⟨⟨o,I.kIn p o hk,hc⟩,fun a e=>?_⟩
   cases e
   exact⟨o,I.kIn _ o hk,hd⟩
  ·have z:∃o,s.heap.get? p=some o/\o.ExactDict:=by
    rcases hk with⟨kvs,hk⟩ | ⟨kvs,hk⟩
    ·obtain⟨_,_,_,_,o,_,_,e,ex,_⟩:=I.hok p _ hk
     exact⟨o,e,ex⟩
    ·obtain⟨_,_,_,_,o,_,_,e,ex,_⟩:=I.hok p _ hk
     exact⟨o,e,ex⟩
   obtain⟨o,e,ex⟩:=z
   refine⟨⟨o,e,ex.1⟩,fun a e2=>?_⟩
   cases e2
   exact⟨o,e,ex.2.1⟩
  ·obtain⟨o,_,_,_,e,ex,_⟩:=I.hok p _ hk
   refine⟨⟨o,e,ex.1⟩,fun a e2=>?_⟩
   cases e2
   exact⟨o,e,ex.2.1⟩
  ·obtain⟨_,_,_,o,e,⟨c,_⟩,hd⟩:=I.hok p _ hk
   refine⟨⟨o,e,c⟩,fun a e2=>?_⟩
   cases e2
   exact⟨o,e,hd⟩
 | _=>exact False.elim ty
noncomputable def DY (K:PySem.W.Frag) (T:String) (r:V->List V->Hp->VK->Prop) (to:TE):TE:=fun σ H Q=>to σ H fun x H1=>tyV K T x H1/\r x [] H1 Q
noncomputable def tBM (K:PySem.W.Frag) (T:String) (r:V->List V->Hp->VK->Prop) (to:TE) (t:TA):TE:=fun σ H Q=>to σ H fun x H1=>tyV K T x H1/\t σ H1 fun xs H2=>r x xs H2 Q
variable {o e:Expr} {es:List Expr} {to:TE} {t:TA} {name:Str} {apos cpos:Pos} {T id:String} {r:V->List V->Hp->VK->Prop}
theorem AA (pa:PlainAttrs T) (slot:Slot T name id) (hty:typeOf (.builtin id)=pure (.type "method_descriptor")) (hm:MtR X id r) (ho:PE X o to)
  (hbase:attributeBase o name X.env (eval o X.env)=eval o X.env:=by rfl) (hline:(apos.endLine == cpos.line)=true:=by rfl):PE X (.Call (.Attribute o name apos) [] [] cpos) (DY X.K T r to):=by
 intro pins s σ H Q I h
 refine wpAny_Call_method0_late hbase hline (thn (ho pins s σ H _ I h) fun v s1 ⟨x,H1,I1,r1,ty,q1⟩=>?_)
 obtain⟨h1,h2⟩:=vk I1 r1 ty
 exact⟨T,id,pa,slot,hty,h1,h2,Calls.callWith_builtin rfl (PySem.evalArgs_none (hm pins s1 σ H1 x [] v [] Q I1 r1 .nil q1))⟩
theorem xj (pa:PlainAttrs T) (slot:Slot T name id) (hty:typeOf (.builtin id)=pure (.type "method_descriptor")) (hm:MtR X id r) (ho:PE X o to) (ha:PA X (e::es) t)
  (hbase:attributeBase o name X.env (eval o X.env)=eval o X.env:=by rfl)
  (hfew:((backTo cpos (starEach (e::es) X.env)).all (fun x=>!x.1)&&(backToKw cpos (keywordEach [] X.env)).all (fun x=>x.1.isSome)
   && decide ((e::es).length+([]:List Keyword).length+(if ([]:List Keyword).isEmpty then 0 else 1)<30))=true:=by rfl)
  (hline:(apos.endLine == cpos.line)=true:=by rfl) (hs:starEach (e::es) X.env=(false,eval e X.env)::starEach es X.env:=by rfl) (hplain:(backTo cpos (starEach es X.env)).any (·.1)=false:=by rfl) :
  PE X (.Call (.Attribute o name apos) (e::es) [] cpos) (tBM X.K T r to t):=by
 intro pins s σ H Q I h
 refine wpAny_Call_method_late hbase hfew hline rfl (thn (ho pins s σ H _ I h) fun v s1 ⟨x,H1,I1,r1,ty,q1⟩=>?_)
 obtain⟨h1,h2⟩:=vk I1 r1 ty
 refine⟨T,id,pa,slot,hty,h1,h2,?_⟩
 have hA:=ha cpos pins s1 σ H1 _ I1 q1
 rw[hs] at hA ⊢
 refine Calls.callWith_builtin (by show(false || (backTo cpos (starEach es X.env)).any (·.1))=false;rw[hplain]<;>rfl) (Calls.evalArgs_plain ?_)
 exact thn hA fun us s2 ⟨vs,H2,I2,r2,q2⟩=>hm pins s2 σ H2 x vs v us Q I2 r1 r2 q2
/- xs.append(e),list.index on a module's tuple .. are MtR facts of 06m -/
end
noncomputable def MtM (X:Cx) (id:String) (r:V->List V->Hp->VK->Prop):Prop:=
 ∀(pins:List (Addr × Obj)) (s:Shared) (σ:St) (H:Hp) (x:V) (xs:List V) (v:Value) (us:List Value) (Q:VK),Inv X pins σ H s->RelV x v->Vals xs us->r x xs H Q →
  wpAny (model X.prog X.w) X.A (call (.builtin id) (v::us)) (EP X pins σ Q) X.xe s
theorem Vals.one:∀{x:V} {us:List Value},Vals [x] us->∃u,us=[u]/\RelV x u
 | _,_,.cons r .nil=>⟨_,rfl,r⟩
theorem Vals.eraseIdx:∀{xs:List V} {us:List Value} (i:Nat),Vals xs us->Vals (xs.eraseIdx i) (us.eraseIdx i)
 | _,_,_,.nil=>.nil
 | _,_,0,.cons _ t=>t
 | _,_,i+1,.cons r t=>.cons r (Vals.eraseIdx i t)
theorem Vals.rep {xs:List V} {us:List Value} (h:Vals xs us):∀k:Nat,Vals (List.replicate k xs).flatten (List.replicate k us).flatten
 | 0=>.nil
 | k+1=>by
  rw[List.replicate_succ,List.replicate_succ,List.flatten_cons,List.flatten_cons]
  exact Vals.append h (Vals.rep h k)
theorem mq {α:Type}:∀(l:List α) (i:Nat),(l.eraseIdx i).length<=l.length
 | [],_=>Nat.le_refl _
 | _::_,0=>Nat.le_succ _
 | _::r,i+1=>Nat.succ_le_succ (mq r i)
theorem foldl_rep (its:List Value):∀(k:Nat) (acc:List Value),
  List.foldl (fun x1 x2=>x1++x2) acc.toArray (List.replicate k its.toArray)=(acc++(List.replicate k its).flatten).toArray
 | 0,acc=>by simp
 | k+1,acc=>by
  have e:acc.toArray++its.toArray=(acc++its).toArray:=by simp
  have e2:(acc++its)++(List.replicate k its).flatten=acc++(List.replicate (k+1) its).flatten:=by
   rw[List.replicate_succ,List.flatten_cons,List.append_assoc]
  rw[<- e2,<- foldl_rep its k (acc++its),<- e,List.replicate_succ,List.foldl_cons]
section
variable {X:Cx} {pins:List (Addr × Obj)} {σ:St} {H:Hp} {s:Shared} {l b:Addr} {xs ys zs:List V}
theorem Inv.Cy {its its':List Value} {n:Nat} {f:Array Value->Array Value} {t':Nat} (I:Inv X pins σ H s) (hH:H l=some (.lst xs))
  (e:s.heap.get? l=some { cls:=.type "list", data:=.seq its.toArray n }) (hf:f its.toArray=its'.toArray) (hv:Vals ys its') (hz:ys.length<=sizeLine) :
  Inv X pins σ (upd H l (.lst ys)) { s with heap:=s.heap.update l (Obj.mapSeq f),toks:=t' }:=by
 have q:=PySem.IsL.update e f
 rw[hf] at q
 refine I.write (x:=l) (e:=l) (by rw[hH];exact trivial) (.inl rfl) (fun b' u hb hu=>(Heap.get?_update_other s.heap (Obj.mapSeq f) (Ne.symm hb)).trans hu) ⟨_,q⟩ ?_
 exact⟨hz,its',_,hv,q⟩
theorem Inv.sQ {its:List Value} {t':Nat} (I:Inv X pins σ H s) (hv:Vals ys its) (hz:ys.length<=sizeLine) :
  Inv X pins σ (upd H s.heap.objs.size (.lst ys)) { s with heap:=s.heap.push { cls:=.type "list", data:=.seq its.toArray },toks:=t' }:=
 I.laid (fun _ _ q=>Heap.get?_push_of_some _ q) (Nat.le_refl _) ⟨hz,its,0,hv,Heap.get?_push_size _ rfl⟩
theorem Inv.fresh (I:Inv X pins σ H s):H s.heap.objs.size=none:=I.hok.fresh (Nat.le_refl _)
theorem Inv.BQ (I:Inv X pins σ H s) (hH:H l=some (.lst xs)):xs.length<=sizeLine/\∃(its:List Value) (n:Nat),Vals xs its/\xs.length=its.length/\s.heap.get? l=some { cls:=.type "list", data:=.seq its.toArray n }:=by
 obtain⟨z,its,n,r,e⟩:=I.hok l _ hH
 exact⟨z,its,n,r,r.length,e⟩
theorem uT {n:Nat} (h:n<=sizeLine):Builtin.List.listTooLong n=false:=by
 unfold Builtin.List.listTooLong
 exact decide_eq_false (by omega)
end
section
variable {X:Cx}
noncomputable def r9:V->List V->Hp->VK->Prop:=fun x vs H Q=>∃l xs y,x=.ref l/\vs=[y]/\H l=some (.lst xs)/\xs.length<sizeLine/\Q .non (upd H l (.lst (xs++[y])))
theorem cT:MtM X "list.append" r9:=by
 intro pins s σ H x vs v us Q I rx rv h
 obtain⟨l,xs,y,rfl,rfl,hH,hz,q⟩:=h
 cases rx
 obtain⟨u,rfl,ru⟩:=rv.one
 obtain⟨z,its,n,r,hl,e⟩:=I.BQ hH
 refine call_meets F.slot_list_append ⟨_,e,rfl⟩ F.entry_list_append (F.args_list_append_2 _ _) (PySem.list_append l its.toArray n u (by rw[List.size_toArray];omega)) ⟨e,?_⟩
 refine⟨.non,_,I.Cy (its':=its++[u]) hH e (by simp) (r.append (.cons ru .nil)) ?_,rfl,q⟩
 rw[List.length_append,List.length_singleton]
 omega
noncomputable def uG:V->List V->Hp->VK->Prop:=fun x vs H Q=>∃l xs i k y,x=.ref l/\vs=[.int i]/\H l=some (.lst xs)/\-(2 ^ 63)<=i/\i<2 ^ 63/\seqIndex? i xs.length=some k/\xs[k]?=some y/\Q y (upd H l (.lst (xs.eraseIdx k)))
theorem wC:MtM X "list.pop" uG:=by
 intro pins s σ H x vs v us Q I rx rv h
 obtain⟨l,xs,i,k,y,rfl,rfl,hH,h1,h2,hk,hy,q⟩:=h
 cases rx
 obtain⟨u,rfl,ru⟩:=rv.one
 obtain⟨t,rfl⟩:=ru
 obtain⟨z,its,n,r,hl,e⟩:=I.BQ hH
 obtain⟨w,hw,rw'⟩:=r.get hy
 refine call_meets F.slot_list_pop ⟨_,e,rfl⟩ F.entry_list_pop (F.args_list_pop_2 _ _)
  (MeetsSeq.list_pop_at l its.toArray n i t k w (fitsIndex_both h1 h2) (by rw[List.size_toArray,<- hl];exact hk) (by rw[<- Array.getElem?_toList];exact hw) (by rw[List.size_toArray];omega)) ⟨e,?_⟩
 refine⟨y,_,I.Cy (its':=its.eraseIdx k) hH e ?_ (r.eraseIdx k) ?_,rw',q⟩
 ·show its.toArray.eraseIdxIfInBounds k=(its.eraseIdx k).toArray
  rw[List.eraseIdxIfInBounds_toArray]
 ·have:=mq xs k
  omega
theorem len_rep {α:Type} (xs:List α) (k:Nat):(List.replicate k xs).flatten.length=k*xs.length:=by
 induction k with
 | zero=>simp
 | succ k ih=>rw[List.replicate_succ,List.flatten_cons,List.length_append,ih,Nat.succ_mul,Nat.add_comm]
end
end L2
namespace Att
open PySem PySem.W PySem.Calls PyProof.Rows
theorem jC {P:Params} {h:Heap}:∀(ns:List Int) (vs:List Value),WellAll P h vs (ns.map WData.int)->IntsAre vs ns:=by
 intro ns
 induction ns with
 | nil=>
  intro vs w
  rw[List.map_nil] at w
  cases w
  exact .nil
 | cons n ns ih=>
  intro vs w
  rw[List.map_cons] at w
  cases w with
  | cons a b=>
   cases a
   exact .cons _ _ (ih _ b)
theorem ue {l:OpenLaw} {n:Nat} (hn:l.most=some n) {P:Params} {h:Heap} {args:List WData} {vals:List Value}
  (hpre:l.row.toRowW.claim.pre args=true) (hwl:WellAll P h vals args) :
  ∃a vs ns,vals=[Value.ref a]/\args=[WData.list (ns.map WData.int)]/\h.get? a=some { cls:=.type "list", data:=.seq vs.toArray }/\IntsAre vs ns/\ns.length<=n:=by
 have hsh:WShape.hasAll [] args [.list .int]=true:=(pre_splitW hpre).1
 have hc:l.pre.holds [] { args:=args }=true:=(pre_splitW hpre).2
 obtain⟨d,r,rfl,h1,h2⟩:=hasAllW_cons hsh
 obtain rfl:=hasAllW_nil h2
 obtain⟨xs,rfl,h3⟩:=hasW_list h1
 obtain⟨ns,rfl⟩:=items_int h3
 have hlen:ns.length<=n:=by
  unfold OpenLaw.pre at hc
  have h4:(WTm.not (.lt (.lit (.int (n:Int))) (.len (.arg 0)))).holds [] { args:=[.list (ns.map .int)] }=true:=by
   have h4:=(holds_andW hc).1
   rw[hn] at h4
   exact h4
  have h5:=condW_of h4 (w_not (w_lt w_lit (w_len_list (w_arg rfl))))
  rw[List.length_map] at h5
  refine Nat.le_of_not_lt fun q=>?_
  have q':(n:Int)<((ns.length:Nat):Int):=by omega
  first
   | (rw[decide_eq_true q'] at h5;exact absurd h5 (by decide))
   | (simp at h5;omega)
 cases hwl with
 | cons w1 w2=>
  cases w2
  cases w1 with
  | list ho hall=>exact⟨_,_,ns,rfl,rfl,ho,jC ns _ hall,hlen⟩
theorem uf (l:OpenLaw) (args:List WData):l.row.toRowW.claim.post args (.bool true) args=true:=
 postW_of (r:=l.row.toRowW) (X:=(true == true))
  (show WShape.has [] (.bool true) .bool=true by first | rfl | decide | simp[WShape.has,WShape.arms,WShape.armsAll])
  (show(WTm.eq .res (.lit (.bool true))).value [] { args:=args,res:=some (.bool true),after:=args }=some (.bool (true == true)) from w_eq_bool (w_res rfl) w_lit) rfl
theorem pA {l:OpenLaw} {n:Nat} {q:Program} {loose:List Str} {XP:(Str->Option Value)->Heap->Prop} {YP:World->Heap->Prop} {d:DefRec}
  (hn:l.most=some n) (hdf:d.params.defaults=[])
  (call:∀(w:World) (aH s₁:Shared) (mg mb:Str->Option Value) (fa:Addr) (o:Obj) (pm cd doc:Value) (a:Addr) (vs:List Value) (ns:List Int),
   Ground q loose [] XP w aH mg mb s₁.heap->YP w s₁.heap →
   s₁.heap.get? fa=some o->o.data=.func (docDef d.name d.params d.body d.scope pm cd doc)->s₁.heap.CodeRec cd d.name->mg d.name=some (.ref fa) →
   s₁.heap.get? a=some { cls:=.type "list", data:=.seq vs.toArray }->IntsAre vs ns->ns.length<=n->s₁.gens = #[] →
   codeAny (model l.prog w) callerA (.call (.ref fa) ⟨[.ref a],[]⟩) (fun r s'=>r=.ok (.ret (.bool true))/\OldK s₁.heap s'.heap/\s'.os=s₁.os/\AllBare s'.gens) s₁) :
  WalkO q loose XP YP l.row.toRowW d [] (fun f vs=>PySem.call f vs):=by
 intro w aH s₁ mg mb G Y fa o pm cd doc dV kV ho hd hcd hD hmg hg args vals as hpre hlay hrd hwl hlo
 obtain rfl:dV=.none:=Dflts.none hD hdf
 obtain rfl:kV=.none:=Dflts.noKw hD
 obtain⟨a,vs,ns,rfl,rfl,hobj,hints,hlen⟩:=ue hn hpre hwl
 refine enter_call (codeAny_mono (call w aH s₁ mg mb fa o pm cd doc a vs ns G Y ho (fd_plain hd) hcd hmg hobj hints hlen hg) fun r s' hq=>?_)
 obtain⟨rfl,h2,h3,h4⟩:=hq
 exact⟨.inl ⟨.bool true,.bool true,[],rfl,fun _=>rfl,.bool true,uf l _,fun _=>⟨List.Pairwise.nil,fun _ hm=>(nomatch hm)⟩⟩,h2,h3,h4⟩
end Att
namespace L2
open PySem PySem.Spec PyProof.Rows
theorem lM:∀{vs:List Value} {ns:List Int},IntsAre vs ns->Vals (ns.map V.int) vs
 | _,_,.nil=>.nil
 | _,_,.cons n t h=>.cons ⟨t,rfl⟩ (lM h)
noncomputable def y_ (H:Hp):Prop:=∀b,H b=none\/∃o xs,H b=some (.frz o (.lst xs))
theorem wo {P:Program} {w:World} {K:PySem.W.Frag} {mg mb:Str->Option Value} {CX:CXT} {k:Nat} {fa a:Addr} {fd:FuncData} {x:Str} {sp:Sp} {s₁:Shared} {vs:List Value} {ns:List Int}
  (KX:K.In s₁.heap) (hns:s₁.heap.Ns mainGlobals mg) (hb:s₁.heap.Ns builtinsNs mb) (hbb:∀x:Str,x≠"__name__" -> mb x=bootBuiltins x) (hlim:s₁.heap.NoLimit) (hg:s₁.gens = #[])
  (ha:s₁.heap.get? a=some { cls:=.type "list", data:=.seq vs.toArray }) (hi:IntsAre vs ns) (hl:ns.length<=sizeLine) (hr:bT k callerA)
  (F:∀base:Heap,K.In base->base.Ns mainGlobals mg->dq P w K mg base CX k fa fd [x] sp) (hbind:∀(s:Shared) (u:Value),BindsTo s fd ⟨[u],[]⟩ [(x,u)])
  (hsp:∀H:Hp,y_ H->SqL K H a (ns.map V.int)->sp [.ref a] H (fun v _=>v=.bl true) fun _ _ _=>False)
  (hCX:∀H e s',CX [] H s₁ (fun _ _ _=>False) e s'->False) :
  codeAny (model P w) callerA (.call (.ref fa) ⟨[.ref a],[]⟩) (fun r s'=>r=.ok (.ret (.bool true))/\OldK s₁.heap s'.heap/\s'.os=s₁.os/\AllBare s'.gens) s₁:=by
 have rv:=lM hi
 have lenV:=hi.length
 -- from an abstract heap in which nothing but the script may be tracked
 have core:∀H:Hp,y_ H->SqL K H a (ns.map V.int)->HOk P w H s₁.heap->(∀b,H b≠none->b=a)->(H a≠none->K.lookup a=none) →
   codeAny (model P w) callerA (.call (.ref fa) ⟨[.ref a],[]⟩) (fun r s'=>r=.ok (.ret (.bool true))/\OldK s₁.heap s'.heap/\s'.os=s₁.os/\AllBare s'.gens) s₁:=by
  intro H hO hS hok hA hK
  have base_of:∀{b:Addr} {o:Obj},s₁.heap.get? b=some o->H b=none->(nM s₁.heap H).get? b=some o:=fun e n=>vH e n
  have noA:∀{b:Addr} {o:Obj} {es:Array DictEntry} {ep:Nat},s₁.heap.get? b=some o->o.data=.dict es ep->H b=none:=fun{b o es ep} e d=>by
   cases q:H b with
   | none=>rfl
   | some u=>
    have e':b=a:=hA b (by rw[q];simp)
    subst e'
    rw[ha] at e;cases e
    have d':Data.seq vs.toArray _=Data.dict es ep:=d
    cases d'
  have nsK:∀{b:Addr} {m:Str->Option Value},s₁.heap.Ns b m->(nM s₁.heap H).Ns b m:=fun{b m} ⟨o,es,ep,e,d,r⟩=>⟨o,es,ep,base_of e (noA e d),d,r⟩
  have hKb:K.In (nM s₁.heap H):=fun b o e=>base_of (KX b o e) (by
   cases q:H b with
   | none=>rfl
   | some u=>
    have e':b=a:=hA b (by rw[q];simp)
    subst e'
    rw[hK (by rw[q];simp)] at e;cases e)
  have hM:Mod K mg (nM s₁.heap H):=⟨hKb,nsK hns,⟨mb,nsK hb,hbb⟩,let ⟨mc,h1,h2⟩:=hlim;⟨mc,nsK h1,h2⟩⟩
  have e0:vy P w K mg (nM s₁.heap H) callerA [] s₁ H:=⟨rfl,hM,fun b o e=>zb e,Nat.le_of_eq (tu _ _),trivial,fun b hb=>absurd (show b∈([]:List Addr) from hb) (by simp),hok,.of_eq hg⟩
  refine codeAny_mono ((F _ hKb (nsK hns)).run callerA [] s₁ H ⟨[.ref a],[]⟩ [.ref a] [.ref a] _ _ hr e0 (hbind s₁ (.ref a)) (.cons rfl .nil) (hsp H hO hS)) fun r s' h=>?_
  cases r with
  | error e=>exact(hCX H e s' h).elim
  | ok fl=>
   cases fl with
   | next=>exact False.elim h
   | brk=>exact False.elim h
   | cont=>exact False.elim h
   | ret u=>
    obtain⟨v,H',os,bare,un,hok',r',q⟩:=h
    have q':v=.bl true:=q
    subst q'
    obtain rfl:u=Value.bool true:=r'
    refine⟨rfl,OldK.of_keep fun b o e=>?_,os,bare⟩
    cases q:H b with
    | none=>exact un.keep b o e q (by intro z;exact absurd (show b∈([]:List Addr) from z) (by simp)) (by simp)
    | some u=>
     rcases hO b with z | ⟨ob,xs,z⟩
     ·rw[q] at z;cases z
     ·have z2:=un.kf b ob _ z
      obtain⟨e1,_⟩:=hok b _ z
      obtain⟨e2,_⟩:=hok' b _ z2
      rw[e] at e1;cases e1
      exact e2
 cases hk:K.lookup a with
 | some o=>
  -- the script is one of the module's own objects
  have e:=KX a o hk
  rw[ha] at e
  cases e
  refine core (fun _=>none) (fun _=>.inl rfl) (.inr ⟨_,vs.toArray,_,hk,rfl,rfl,rfl,by rw[List.size_toArray,lenV];exact hl,by simpa using rv⟩) (fun b u z=>by have z':(none:Option HO)=some u:=z;cases z') (fun b z=>absurd rfl z) fun z=>absurd rfl z
 | none=>
  refine core (fun b=>if b=a then some (.frz { cls:=.type "list", data:=.seq vs.toArray } (.lst (ns.map V.int))) else none) (fun b=>?_) (.inl (.inr ⟨{ cls:=.type "list", data:=.seq vs.toArray },if_pos rfl⟩)) (fun b u z=>?_) (fun b z=>?_) fun _=>hk
  ·by_cases hb:b=a
   ·exact .inr ⟨_,_,if_pos hb⟩
   ·exact .inl (if_neg hb)
  ·by_cases hb:b=a
   ·have z':=(if_pos hb).symm.trans z
    cases z'
    subst hb
    exact⟨ha,by rw[List.length_map];exact hl,vs,_,rv,ha⟩
   ·have z':=(if_neg hb).symm.trans z
    cases z'
  ·by_cases hb:b=a
   ·exact hb
   ·exact absurd (if_neg hb) z
noncomputable abbrev KOf {K:PySem.W.Frag} {h:Heap} (_:K.In h):PySem.W.Frag:=K
theorem xT {l:PySem.W.OpenLaw} {n k:Nat} {q:Program} {loose:List Str} {XP:(Str->Option Value)->Heap->Prop} {YP:World->Heap->Prop} {d:DefRec} {K:Params->PySem.W.Frag} {CX:World->CXT} {sp:World->Sp} {x:Str}
  (hn:l.most=some n) (hn2:n<=sizeLine) (hdf:d.params.defaults=[]) (hr:bT k callerA)
  (hY:∀(w:World) (h:Heap),YP w h->(K w.params).In h)
  (F:∀(w:World) (mg:Str->Option Value) (fa:Addr) (h:Heap),(K w.params).In h->h.Ns mainGlobals mg->mg d.name=some (.ref fa) →
   ∃fd:FuncData,(∀(s:Shared) (u:Value),BindsTo s fd ⟨[u],[]⟩ [(x,u)]) ∧
    ∀base:Heap,(K w.params).In base->base.Ns mainGlobals mg->dq l.prog w (K w.params) mg base (CX w) k fa fd [x] (sp w))
  (hsp:∀(w:World) (H:Hp) (a:Addr) (ns:List Int),ns.length<=n->y_ H->SqL (K w.params) H a (ns.map V.int)->sp w [.ref a] H (fun v _=>v=.bl true) fun _ _ _=>False)
  (hCX:∀(w:World) (H:Hp) (s:Shared) (e:Value) (s':Shared),CX w [] H s (fun _ _ _=>False) e s'->False) :
  PySem.W.WalkO q loose XP YP l.row.toRowW d [] (fun f vs=>PySem.call f vs):=by
 refine Att.pA hn hdf fun w aH s₁ mg mb fa o pm cd doc a vs ns G Y ho hd hcd hmg hobj hints hlen hg=>?_
 have KX:=hY w _ Y
 obtain⟨fd,hb,hF⟩:=F w mg fa _ KX G.T.g hmg
 exact wo KX G.T.g G.T.b G.T.builtins G.T.nolimit hg hobj hints (Nat.le_trans hlen hn2) hr hF hb (fun H hO hS=>hsp w H a ns hlen hO hS) fun H e s'=>hCX w H s₁ e s'
end L2
/- THE LAST THEOREM (shape;LID,My.* are yours):
  My.Adr: a structure of the addresses that your layer names (classes,functions);My.Txt K t: a structure (Prop) of the equations over K;
  My.txt_mk:{K} {implicit addresses ..} (e1:nsIn K mainGlobals "law" = some (some (.ref f))) (e2:K.lookup f=some ⟨oc,od,.func (fnOf "law" "law" params body scope dV kV doc pm an cdv ct),sl⟩) (e3:codeIn K cdv "law" = true) .. : ∃t,My.Txt K t
(the tactic k_is has no namespace: write k_is) -/
namespace L2
open PySem PySem.Spec PyProof.Rows
noncomputable def dU (s:Stmt):Arguments:=match s with
 | .FunctionDef _ a _ _ _ _ _ _ _ _=>a
 | _=>{ posonlyargs:=[],args:=[],vararg:=none,kwonlyargs:=[],kw_defaults:=[],kwarg:=none,defaults:=[] }
noncomputable def bq (s:Stmt):List Stmt:=match s with
 | .FunctionDef _ _ b _ _ _ _ _ _ _=>b
 | _=>[]
noncomputable def aj (s:Stmt):Scope:=match s with
 | .FunctionDef _ _ _ _ _ _ sc _ _ _=>sc
 | _=>{ kind:=.function,names:=[],isGenerator:=false,isCoroutine:=false }
noncomputable abbrev CX0:CXT:=fun _ _ _ _ _ _=>False
noncomputable abbrev E0:XK:=fun _ _ _=>False
theorem DB {X:Cx}:Passes CX0 X E0:=fun _ _ _ _ _ _ _ h=>h.elim
structure Fun (K:PySem.W.Frag) (x qual:Str) (st:Stmt) (f:Addr) (fd:FuncData):Prop where
 ex:∃(oc:Value) (od:Option Addr) (kV doc pm:Value) (an:Option Addr) (cdv ct:Value) (osl:Array (Option Value)),
  fd=PySem.W.fnOf x qual (dU st) (bq st) (aj st) .none kV doc pm an cdv ct/\K.lookup f=some ⟨oc,od,.func fd,osl⟩/\PySem.W.codeIn K cdv qual=true
 kp:PySem.W.keepIn K (.ref f)=true
section
variable {P:Program} {w:World} {K:PySem.W.Frag} {mg:Str->Option Value} {base:Heap}
theorem Fun.ok {x qual:Str} {st:Stmt} {f:Addr} {fd:FuncData} {N ps:List Str} {k:Nat} {sp:Sp} (F:Fun K x qual st f fd) (S:aP N ps (aj st)) (len:∀vs H Q E,sp vs H Q E->vs.length=ps.length)
  (hbody:∀(cdv:Value) (A:Around) (outer:List Env) (s:Shared) (H:Hp) (vs:List V) (Q:VK) (E:XK),bT k (A.deeper (envOfC qual (aj st) s.heap.objs.size f cdv))->sp vs H Q E →
   ∃t,PSs (gr CX0 P w K mg base N qual (aj st) f cdv A outer s H E).nox (bq st) t/\t { nx:=fun _ H'=>Q .non H',rt:=Q } (start N vs) H):dq P w K mg base CX0 (k+1) f fd ps sp:=by
 obtain⟨oc,od,kV,doc,pm,an,cdv,ct,osl,rfl,lk,hcd⟩:=F.ex
 refine zx lk hcd S len fun A outer s H vs Q E hr hsp=>?_
 obtain⟨t,h,q⟩:=hbody cdv A outer s H vs Q E hr hsp
 exact⟨t,h.nox,q⟩
theorem Fun.binds {x qual:Str} {st:Stmt} {f:Addr} {fd:FuncData} {ps:List Str} (F:Fun K x qual st f fd)
  (h:∀(kV doc pm:Value) (an:Option Addr) (cdv ct:Value) (us:List Value),us.length=ps.length->bindArgs (PySem.W.fnOf x qual (dU st) (bq st) (aj st) .none kV doc pm an cdv ct) ⟨us,[]⟩=pure (ps.zip us)):Binds K fd ps []:=by
 obtain⟨oc,od,kV,doc,pm,an,cdv,ct,osl,rfl,lk,hcd⟩:=F.ex
 exact .all (h kV doc pm an cdv ct)
theorem vD {x qual:Str} {st:Stmt} {f:Addr} {oc:Value} {od an:Option Addr} {osl:Array (Option Value)} {kV doc pm cdv ct:Value} (l:K.lookup f=some ⟨oc,od,.func (PySem.W.fnOf x qual (dU st) (bq st) (aj st) .none kV doc pm an cdv ct),osl⟩)
  (c:PySem.W.codeIn K cdv qual=true) (k:PySem.W.keepIn K (.ref f)=true):Fun K x qual st f (PySem.W.fnOf x qual (dU st) (bq st) (aj st) .none kV doc pm an cdv ct):=⟨⟨oc,od,kV,doc,pm,an,cdv,ct,osl,rfl,l,c⟩,k⟩
end
noncomputable def PTs (X:Cx) (ifs:List Expr) (t:TT):Prop:=
 ∀(pins:List (Addr × Obj)) (s:Shared) (σ:St) (H:Hp) (Q:Bool->Hp->Prop),Inv X pins σ H s->t σ H Q →
  wpAny (model X.prog X.w) X.A (forIn ifs true fun c r=>if r=true then do let ok ← isTrue c X.env (eval c X.env);pure (ForInStep.yield ok) else pure (ForInStep.yield r)) (TP X pins σ Q) X.xe s
noncomputable def Dt:TT:=fun _ H Q=>Q true H
theorem yx {X:Cx}:PTs X [] Dt:=fun _ _ _ H _ I h=>wpAny_tests_nil ⟨H,I,h⟩
theorem yT {X:Cx} {c:Expr} {t:TT} (h:PT X c t):PTs X [c] t:=fun pins s σ H Q I q=>wpAny_tests_one (h pins s σ H Q I q)
theorem pO {prog:Program} {w:World} {A:Around} {R:Result->Shared->Prop} {s:Shared} {elt target iter:Expr} {ifs:List Expr} {scope:Scope} {pos:Pos} {it acc:Value} {env:Env} (I:Nat->Shared->Prop)
  (turn:∀n s,I n s->wpAny (model prog w) A (pyNext it) (fun r s₁=>match r with
   | none=>R (.ok .next) s₁
   | some v=>wpAny (model prog w) A (letOwnedTupleGo target it v) (fun _ s₁=>wpAny (model prog w) A (assign target env v) (fun _ s₂=>
     wpAny (model prog w) A (forIn ifs true fun c r=>if r=true then do let ok ← isTrue c env (eval c env);pure (ForInStep.yield ok) else pure (ForInStep.yield r)) (fun ok s₃=>
      if ok=true then wpAny (model prog w) A (eval elt env) (fun x s₄=>
       wpAny (model prog w) A (call (.builtin "list.append") [acc,x]) (fun _ s₅=>∃m,m<n/\I m s₅) (fun _ _=>False) s₄) (fun _ _=>False) s₃
      else ∃m,m<n/\I m s₃) (fun _ _=>False) s₂) (fun _ _=>False) s₁) (fun _ _=>False) s₁) (fun _ _=>False) s)
  (n:Nat) (h:I n s) :
  codeAny (model prog w) A (.compLoop (.ListComp elt [⟨target,iter,ifs,0⟩] scope pos) 0 it acc env) R s:=by
 refine codeAny_loop rfl I (fun n s hI=>?_) n h
 show wpAny _ A ((compTurn (.ListComp elt [⟨target,iter,ifs,0⟩] scope pos) 0 it acc env).onRaise (fun x=>do noteFrame x env;theTreesLotGoes x)) _ _ s
 refine wpAny_noted ?_
 rw[compTurn_list]
 refine wpAny_noRaise ?_
 refine wpAny_bind (wpAny_standAt (wpAny_bind (wpAny_mono (turn n s hI) (fun r s₁ h₁=>?_) fun _ _ h'=>h')))
 cases r with
 | none=>exact wpAny_pure h₁
 | some v=>
  refine wpAny_bind (wpAny_mono h₁ (fun _ s₁' h₁'=>?_) fun _ _ h'=>h')
  refine wpAny_bind (wpAny_mono h₁' (fun _ s₂ h₂=>wpAny_bind (wpAny_mono h₂ (fun ok s₃ h₃=>?_) fun _ _ h'=>h')) fun _ _ h'=>h')
  cases ok with
  | false=>exact wpAny_pure ⟨rfl,h₃⟩
  | true=>
   exact wpAny_bind (wpAny_bind (wpAny_mono h₃ (fun x s₄ h₄=>wpAny_bind (wpAny_mono h₄ (fun _ s₅ h₅=>wpAny_pure (wpAny_pure ⟨rfl,h₅⟩)) fun _ _ h'=>h')) fun _ _ h'=>h'))
noncomputable def cn (X:Cx) (scope:Scope) (cl:List (Str × Addr)) (C:Addr) (aH:Shared) (aS:Hp) (fp:List Addr) (N':List Str):Cx:=
 { X with N:=N',aH:=aH,aS:=aS,env:=compEnvC scope cl C X.env,outer:=X.stack,ex:=fp,fn:=fun _=>false,pn:=[] }
theorem gB {env:Env}:∀(names:List (Str × NameKind)) (cs:List (Str × Addr)),(∀y∈names,y.2=.free->∃a,env.cells.lookup y.1=some a)->(∀x c,cs.lookup x=some c->env.cells.lookup x=some c) →
  ∃cl:List (Str × Addr),(forIn names cs fun(y:Str × NameKind) (r:List (Str × Addr))=>if (y.2 == NameKind.free)=true then do let a ← cellOf env y.1;pure (ForInStep.yield ((y.1,a)::r)) else pure (ForInStep.yield r):Sem (List (Str × Addr)))=pure cl ∧
   (∀x c,cl.lookup x=some c->env.cells.lookup x=some c)/\(∀x,((x,NameKind.free)∈names\/∃c,cs.lookup x=some c)->∃c,cl.lookup x=some c)
 | [],cs,_,h=>⟨cs,rfl,h,fun x hx=>by
   rcases hx with z | z
   ·cases z
   ·exact z⟩
 | (n,k)::r,cs,hf,h=>by
  by_cases hk:k=.free
  ·subst hk
   obtain⟨a,ha⟩:=hf (n,.free) (by simp) rfl
   obtain⟨cl,e,h1,h2⟩:=gB r ((n,a)::cs) (fun y hy=>hf y (List.mem_cons_of_mem _ hy)) (fun x c q=>by
    rw[List.lookup_cons] at q
    cases hx:x == n with
    | true=>
     rw[hx] at q
     have:x=n:=by simpa using hx
     subst this
     cases q;exact ha
    | false=>rw[hx] at q;exact h x c q)
   refine⟨cl,?_,h1,fun x hx=>?_⟩
   ·rw[List.forIn_cons]
    have e0:cellOf env n=pure a:=by unfold cellOf;rw[ha]
    simp only[beq_self_eq_true,if_true,e0]
    exact e
   ·have hc:∀z c,cs.lookup z=some c->∃c,((n,a)::cs).lookup z=some c:=fun z c q=>by
     rw[List.lookup_cons]
     cases z == n with
     | true=>exact⟨a,rfl⟩
     | false=>exact⟨c,q⟩
    rcases hx with z | ⟨c,z⟩
    ·rcases List.mem_cons.mp z with q | q
     ·cases q
      exact h2 n (.inr ⟨a,by simp[List.lookup_cons]⟩)
     ·exact h2 x (.inl q)
    ·exact h2 x (.inr (hc x c z))
  ·obtain⟨cl,e,h1,h2⟩:=gB r cs (fun y hy=>hf y (List.mem_cons_of_mem _ hy)) h
   have hb:(k == NameKind.free)=false:=by simpa using hk
   refine⟨cl,?_,h1,fun x hx=>?_⟩
   ·rw[List.forIn_cons]
    simp only[hb,Bool.false_eq_true,if_false]
    exact e
   ·rcases hx with z | z
    ·rcases List.mem_cons.mp z with q | q
     ·cases q;exact absurd rfl hk
     ·exact h2 x (.inl q)
    ·exact h2 x (.inr z)
theorem k_ {env:Env} {scope:Scope} (h:∀y∈scope.names,y.2=.free->∃a,env.cells.lookup y.1=some a) :
  ∃cl:List (Str × Addr),closureFor scope env=pure cl/\(∀x c,cl.lookup x=some c->env.cells.lookup x=some c)/\(∀x,(x,NameKind.free)∈scope.names->∃c,cl.lookup x=some c):=by
 obtain⟨cl,e,h1,h2⟩:=gB (env:=env) scope.names [] h (fun x c q=>by cases q)
 refine⟨cl,?_,h1,fun x hx=>h2 x (.inl hx)⟩
 exact Eq.trans (congrArg (fun t:Sem (List (Str × Addr))=>t >>= fun cs=>pure cs) e) rfl
theorem lookup_mem {x:Str} {k:NameKind}:∀{names:List (Str × NameKind)},names.lookup x=some k->(x,k)∈names
 | [],h=>by cases h
 | (n,j)::r,h=>by
  rw[List.lookup_cons] at h
  cases hx:x == n with
  | true=>
   rw[hx] at h
   have:x=n:=by simpa using hx
   subst this
   cases h;simp
  | false=>rw[hx] at h;exact List.mem_cons_of_mem _ (lookup_mem h)
theorem di {env:Env} (hf:env.scope.kind=.function):∀{names:List (Str × NameKind)} {x:Str},names.lookup x=some .free->env.kindOf x=some .cell →
  (names.map fun(n,k)=>if (k == NameKind.free&&env.scope.kind == .function&&env.kindOf n == some .cell) then (n,NameKind.cell) else (n,k)).lookup x=some .cell
 | [],_,h,_=>by cases h
 | (n,k)::r,x,h,hc=>by
  have ih:=@di env hf r x
  show List.lookup x ((if (k == NameKind.free&&env.scope.kind == .function&&env.kindOf n == some .cell)=true then (n,NameKind.cell) else (n,k))::_)=_
  cases hx:x == n with
  | true=>
   have:x=n:=by simpa using hx
   subst this
   simp only[List.lookup_cons,hx] at h
   cases h
   rw[if_pos (by simp[hf,hc])]
   simp[List.lookup_cons]
  | false=>
   simp only[List.lookup_cons,hx] at h
   by_cases hq:(k == NameKind.free&&env.scope.kind == .function&&env.kindOf n == some .cell)=true
   ·rw[if_pos hq];simp only[List.lookup_cons,hx];exact ih h hc
   ·rw[if_neg hq];simp only[List.lookup_cons,hx];exact ih h hc
theorem eH {env:Env}:∀{names:List (Str × NameKind)} {x:Str} {k:NameKind},(names.map fun(n,k)=>if (k == NameKind.free&&env.scope.kind == .function&&env.kindOf n == some .cell) then (n,NameKind.cell) else (n,k)).lookup x=some k →
  names.lookup x=some k\/(names.lookup x=some .free/\k=.cell)
 | [],_,_,h=>by cases h
 | (n,j)::r,x,k,h=>by
  have ih:=@eH env r x k
  have h':List.lookup x ((if (j == NameKind.free&&env.scope.kind == .function&&env.kindOf n == some .cell)=true then (n,NameKind.cell) else (n,j))::(r.map fun(n,k)=>if (k == NameKind.free&&env.scope.kind == .function&&env.kindOf n == some .cell) then (n,NameKind.cell) else (n,k)))=some k:=h
  by_cases hq:(j == NameKind.free&&env.scope.kind == .function&&env.kindOf n == some .cell)=true
  ·rw[if_pos hq] at h'
   have hj:j=.free:=by
    have:=Bool.and_eq_true_iff.mp (Bool.and_eq_true_iff.mp hq).1
    simpa using this.1
   simp only[List.lookup_cons] at h' ⊢
   cases hx:x == n with
   | true=>rw[hx] at h';cases h';exact .inr ⟨by rw[hj],rfl⟩
   | false=>rw[hx] at h';exact ih h'
  ·rw[if_neg hq] at h'
   simp only[List.lookup_cons] at h' ⊢
   cases hx:x == n with
   | true=>rw[hx] at h';cases h';exact .inl rfl
   | false=>rw[hx] at h';exact ih h'
noncomputable def mD (ix:List Nat) (σ:St):St:=none::ix.map fun i=>(σ[i]?).join
noncomputable abbrev BZ (J:It) (tt:TT) (te:TE) (σ':V->St) (acc:Addr) (H1:Hp) (Q:VK):Prop:=
 ∃W:Nat->Nat->List V->Hp->Prop,(∃m,W 0 m [] (upd H1 acc (.lst [])))/\∀i m ys H,W i m ys H →
  (J.stop i H/\Q (.ref acc) H)\/(J.go i H/\∀x H',J.yld i H x H'->tt (σ' x) H' fun b H2=>if b=true then te (σ' x) H2 fun y H3=>
    H3 acc=some (.lst ys)/\ys.length<sizeLine/\∃m',m'<m/\W (i+1) m' (ys++[y]) (upd H3 acc (.lst (ys++[y])))
   else ∃m',m'<m/\W (i+1) m' ys H2)
noncomputable def zk (wi:TI) (ix:List Nat) (tt:TT) (te:TE):TE:=fun σ H Q=>wi σ H fun J H1=>∀acc,H1 acc=none->BZ J tt te (fun x=>(mD ix σ).set 0 (some x)) acc H1 Q
theorem HOk.sameBut {P:Program} {w:World} {H:Hp} {h h':Heap} {C:Addr} (x:HOk P w H h) (hn:H C=none) (k:∀b u,b≠C->h.get? b=some u->h'.get? b=some u):HOk P w H h':=fun b u e=>by
 have nC:∀b u,H b=some u->b≠C:=fun b u e z=>by rw[z,hn] at e;cases e
 refine(x b u e).g_ (fun c v hc q=>k c v ?_ q) (fun _ q=>q) fun _ _ q=>q
 rcases hc with z | z
 ·rw[z];exact nC b u e
 ·exact nC c _ z
theorem pF:isSubtype (.type "tuple") (.type "set")=pure false:=by rw[isSubtype_type];kernel_rfl
theorem ni:isSubtype (.type "tuple") (.type "frozenset")=pure false:=by rw[isSubtype_type];kernel_rfl
noncomputable abbrev dr (led:Bool):Obj:={ cls:=.type "set", dict:=none,data:=.set #[] 0 (.fresh 0 0 led) }
set_option maxHeartbeats 3200000 in
theorem set_tuple {prog:Program} {w:World} {B:Around} {Er:Value->Shared->Prop} {z:Shared} {a:Addr} {its:Array Value} {zs:List Int} {Q:Value->Shared->Prop}
  (hh:B.handled=none) (ht:z.heap.IsTuple a its) (hi:IntsAre its.toList zs) (hb:its.size+1<scanBound)
  (fin:∀(g':Heap) (tk:Nat),g'.SetOf (intKind prog w) z.heap.objs.size (fun k'=>(firstMet (fun i=>zs.getD i 0) its.size).any (· == k')) (firstMet (fun i=>zs.getD i 0) its.size).length →
   (∀b o,b<z.heap.objs.size->z.heap.get? b=some o->g'.get? b=some o)->Q (.ref z.heap.objs.size) { z with heap:=g',toks:=tk }) :
  wpAny (model prog w) B (call (.type "set") [.ref a]) Q Er z:=by
 obtain⟨_,_,_⟩:=F.called_set.mro
 have:=F.called_set.made
 have:=F.called_set.sub
 refine wpAny_call (codeAny_of_tree ?_)
 show wpAny _ _ (callAny (.type "set") _) _ _ _
 refine wpAny_pure ⟨Code.quiet_builtin _ (by decide +kernel),codeAny_builtin F.entry_type_call ?_⟩
 rw[Around.under_plain (weight_type_call_type "set" [.ref a] []) rfl]
 have:=F.called_set.notType
 have:=F.called_set.canCreate
 have:=F.typeCall_set_1 (.ref a)
 repeat (any_goals (first | assumption | wp_step))
 refine codeAny_mono (code_set_new_1 (.ref a) (E:=Er) (Q₁:=fun v y=>∃led:Bool,v=.ref z.heap.objs.size/\y={ z with heap:=z.heap.push (dr led) }) fun led=>⟨led,rfl,rfl⟩) fun r y hr=>?_
 cases r with
 | error e=>exact hr
 | ok fl=>
  cases fl with
  | ret v=>
   obtain⟨led,rfl,rfl⟩:=hr
   have hS:(z.heap.push (dr led)).get? z.heap.objs.size=some (dr led):=Heap.get?_push_size _ rfl
   have hT:Shared.TypeIs { z with heap:=z.heap.push (dr led) } (.ref z.heap.objs.size) "set" := ⟨_,hS,rfl⟩
   have:=F.called_set.init.lookup
   have:=F.called_set.init.bind (.ref z.heap.objs.size)
   repeat (any_goals (first | assumption | wp_step))
   refine codeAny_mono (codeAny_call_builtin (R:=wants (fun r y=>r=.none/\∃g' tk,y={ z with heap:=g',toks:=tk } ∧
     g'.SetOf (intKind prog w) z.heap.objs.size (fun k'=>(firstMet (fun i=>zs.getD i 0) its.size).any (· == k')) (firstMet (fun i=>zs.getD i 0) its.size).length ∧
     (∀b o,b<z.heap.objs.size->z.heap.get? b=some o->g'.get? b=some o)) Er) F.called_set.init.plain F.entry_set_init (check_set_init_1 hT ?_)) fun r₂ y₂ hr₂=>?_
   ·obtain⟨ol,hol,hcl,nl,hdl⟩:=id ht
    obtain⟨oc,od,oda,osl⟩:=ol
    simp only at hcl hdl
    subst hcl;subst hdl
    have hol':(z.heap.push (dr led)).get? a=some { cls:=.type "tuple", dict:=od,data:=.seq its nl,slots:=osl }:=Heap.get?_push_of_some _ hol
    have:=pF
    have:=ni
    have:(Value.type "tuple" == Value.type "dict")=false:=by decide
    have ht1:(z.heap.push (dr led)).IsTuple a its:=⟨_,hol',rfl,nl,rfl⟩
    unfold Builtin.«set.__init__» noKeywords Builtin.Frozenset.updateFrom
    generalize hPI:pyIter=PI
    wp_walk
    subst hPI
    refine wpAny_pyIter_tuple ht1 ?_
    refine wpAny_bind (wpAny_runValue ?_)
    have hlS:a<z.heap.objs.size:=Heap.lt_size hol
    have hneI:a≠(z.heap.push (dr led)).objs.size:=by
     rw[Heap.size_push];exact Nat.ne_of_lt (Nat.lt_succ_of_lt hlS)
    have hSf:z.heap.objs.size∉[(z.heap.push (dr led)).objs.size,a]:=by
     rw[Heap.size_push];simp only[List.mem_cons,List.mem_singleton,List.not_mem_nil,or_false,not_or]
     exact⟨Nat.ne_of_lt (Nat.lt_succ_self _),Nat.ne_of_gt hlS⟩
    have hval:∀(i:Nat) (v:Value),its[i]?=some v->∃t,v=.int ((fun i=>zs.getD i 0) i) t:=fun i v hv=>IntsAre.int_at hi i v (by rw[Array.getElem?_toList];exact hv)
    refine codeAny_set_update_loopS ((Walks.tuple (by simp[hh]) _ a hneI its).toS) z.heap.objs.size
     hSf (fun i=>zs.getD i 0) hval hb (its.size - 0) 0 _ (by omega) (Nat.zero_le _)
     ⟨⟨_,Heap.get?_push_size _ rfl,rfl,rfl⟩,?hP⟩ ?hS0 ?hR
    case hP=>exact⟨_,Heap.get?_push_of_some _ hol',rfl,nl,rfl⟩
    case hS0=>
     exact SetOf_congr ((setObjOf_fresh (knd:=intKind prog w) led).setOf (Heap.get?_push_of_some _ hS) (by unfold scanBound;omega)) (fun _=>rfl) rfl
    case hR=>
     intro s' hm hS'
     obtain⟨h',g',d',tk',os'⟩:=s'
     obtain rfl:g'=z.gens:=hm.gens
     obtain rfl:d'=z.drawn:=hm.drawn
     obtain rfl:os'=z.os:=hm.os
     show wpAny _ _ _ _ _ _
     refine wpAny_pure ?_
     show wpAny _ _ (ret Value.none) _ _ _
     refine wpAny_pure ⟨rfl,h',tk',rfl,hS',fun b o hb e=>?_⟩
     refine hm.heap b o ?_ (Heap.get?_push_of_some _ (Heap.get?_push_of_some _ e))
     simp only[List.mem_cons,List.mem_singleton,List.not_mem_nil,or_false,not_or]
     refine⟨Nat.ne_of_lt hb,?_⟩
     show b≠(z.heap.push (dr led)).objs.size
     rw[Heap.size_push];exact Nat.ne_of_lt (Nat.lt_succ_of_lt hb)
   ·cases r₂ with
    | error e=>exact hr₂
    | ok fl₂=>
     cases fl₂ with
     | ret r=>
      obtain⟨rfl,g',tk,rfl,hS',hk'⟩:=hr₂
      repeat (any_goals (first | assumption | wp_step))
      exact fin _ _ hS' hk'
     | _=>exact hr₂.elim
  | _=>exact hr.elim
section
variable {X:Cx}
theorem oR:aR X (.builtin "isinstance") (fun vs H Q=>∃x t n b,vs=[x,.ty n]/\gy X.K H x t/\PySem.W.kitOne X.K t (.type n)=some b/\Q (.bl b) H):=by
 intro pins s σ H xs us Q I r h
 obtain⟨x,t,n,b,rfl,ty,e,q⟩:=h
 obtain⟨u,w',rfl,r1,r2⟩:=vals2 r
 cases r2
 exact tw I r1 ty e fun tk=>⟨.bl b,H,I.tok tk,rfl,q⟩
noncomputable def unl (ns:List Int):List Int:=firstMet (fun i=>ns.getD i 0) ns.length
theorem AF (ns:List Int):(unl ns).length<=ns.length:=firstMet_length_le _ _
theorem mP (hc:X.calm=true):aR X (.type "set") (fun vs H Q=>∃p ns,vs=[.ref p]/\SqT X.K H p (ns.map V.int)/\ns.length+1<scanBound/\∀l,H l=none->Q (.ref l) (upd H l (.set (fun k=>(unl ns).any (· == k)) (unl ns).length))):=by
 intro pins s σ H xs us Q I r h
 obtain⟨p,ns,rfl,hq,hb,q⟩:=h
 obtain⟨u,rfl,rx⟩:=vals1 r
 cases rx
 obtain⟨its,r',pl,hz⟩:=I.tuple hq
 have hlen:=r'.length
 rw[List.length_map] at hlen
 have e0:its.toArray.size=ns.length:=by rw[List.size_toArray,hlen]
 refine set_tuple (I.ok.hd hc) (show s.heap.IsTuple p its.toArray from pl) (zs:=ns) (by simpa using intsAre_of r') (by rw[e0];exact hb) fun g' tk hS hk=>?_
 rw[e0] at hS
 exact⟨.ref s.heap.objs.size,_,I.laid (t':=tk) (fun b o e=>hk b o (Heap.lt_size e) e) (Nat.le_refl _) (show br X.prog X.w _ g' _ (.set _ _) from hS),rfl,q _ (I.hok.fresh (Nat.le_refl _))⟩
theorem lE:aR X (.builtin "len") (fun vs H Q=>∃p S n,vs=[.ref p]/\H p=some (.set S n)/\Q (.int n) H):=by
 intro pins s σ H xs us Q I r h
 obtain⟨p,S,n,rfl,hH,q⟩:=h
 obtain⟨u,rfl,rx⟩:=vals1 r
 cases rx
 obtain⟨o,es,ep,tb,ho,hex,hd,hel,hmem,hsz,hfit,rfl⟩:=(show s.heap.SetOf (intKind X.prog X.w) p S n from I.hok p _ hH)
 have hb:(es.size:Int)<2 ^ 63:=by unfold scanBound at hsz;omega
 exact PySem.call_len_set ho hex hd hfit hb ⟨.int es.size,H,I.tok _,⟨_,rfl⟩,q⟩
theorem fW {prog:Program} {w:World} {A:Around} {E:Value->Shared->Prop} {s:Shared} {t sl:Addr} {items:Array Value} {vl vu:Value} {lo hi:Option Int} {Q:Value->Shared->Prop} (ht:IsTup s.heap t items) (hs:s.heap.IsSliceOf sl vl vu .none) (pl:IsPart vl lo) (pu:IsPart vu hi)
  (h1:HT.sIx items.size 0 lo=0) (h2:HT.sIx items.size items.size hi=items.size) (h:Q (.ref t) s):wpAny (model prog w) A (getItem (.ref t) (.ref sl)) Q E s:=by
 obtain⟨os,hos,hcs,hds⟩:=id hs
 have hTs:s.TypeIs (.ref sl) "slice" := ⟨os,hos,hcs⟩
 unfold getItem
 try with_reducible refine wpAny_holding ?_
 first | refine wpAny_bind (wpAny_pure ?_) | skip
 refine wpAny_bind (wpAny_sequenceKey ht.typeIs (by decide) ?_)
 refine wpAny_bind (wpAny_callSpecial?_slot (name:=Str.ofString "__getitem__") ht.typeIs PyProof.Rows.slot_tuple_getitem (wpAny_call_entry PyProof.Rows.slot_tuple_getitem ht.typeIs entry_tuple_getitem ?_ (args_tuple_getitem _ _)))
 show wpAny _ _ (Builtin.Tuple.tupleItemsOf (.ref t) >>= _) _ _ s
 refine wpAny_bind (tupleItemsOf_ ht (wpAny_bind (wpAny_typeOf hTs ?_)))
 rw[if_pos (by decide)]
 refine wpAny_bind (HT.eB hs pl pu ?_)
 rw[h1,h2]
 show wpAny _ _ (if (((0:Nat):Int) == 0&&(1:Int) == 1&&(items.size - 0) == items.size)=true then _ else _) _ _ s
 rw[if_pos (by simp)]
 show wpAny _ _ (Builtin.Tuple.tupleIsExact (.ref t) >>= _) _ _ s
 unfold Builtin.Tuple.tupleIsExact
 refine wpAny_bind (wpAny_bind (wpAny_typeOf ht.typeIs (wpAny_pure ?_)))
 show wpAny _ _ (if (Value.type "tuple" == Value.type "tuple")=true then _ else _) _ _ s
 rw[if_pos (by decide)]
 refine wpAny_bind (wpAny_rule ?_)
 first
  | exact wpAny_pure ⟨_,rfl,wpAny_pure h⟩
  | exact wpAny_bind (wpAny_pure (wpAny_pure ⟨_,rfl,wpAny_pure h⟩))
noncomputable def Dr (K:PySem.W.Frag):V->Option Int->Option Int->Hp->VK->Prop:=fun x lo hi H Q=>∃a xs,x=.ref a/\SqT K H a xs/\HT.sIx xs.length 0 lo=0/\HT.sIx xs.length xs.length hi=xs.length/\Q (.ref a) H
theorem xZ:SlR X (Dr X.K):=by
 intro pins s σ H x v vl vu lo hi sl Q I rx hs pl pu h
 obtain⟨a,xs,rfl,hx,h1,h2,q⟩:=h
 cases rx
 obtain⟨its,r,ht,hz⟩:=I.tuple hx
 have hlen:its.toArray.size=xs.length:=by rw[List.size_toArray];exact r.length.symm
 refine⟨"tuple", _,PyProof.Rows.slot_tuple_getitem.lookup,ht.typeIs,?_⟩
 exact fW ht hs pl pu (by rw[hlen];exact h1) (by rw[hlen];exact h2) ⟨.ref a,H,I,rfl,q⟩
noncomputable def uV (K:PySem.W.Frag):R2:=fun x y H Q=>∃a b ys,x=.ref a/\y=.ref b/\SqT K H a []/\SqT K H b ys/\Q (.ref b) H
theorem ve:OpR X (binaryOp .Add) (uV X.K):=by
 intro pins s σ H x y v u Q I rx ry h
 obtain⟨a,b,ys,rfl,rfl,ha,hb,q⟩:=h
 cases rx
 cases ry
 obtain⟨its,r1,p1,_⟩:=I.tuple ha
 obtain⟨its2,r2,p2,_⟩:=I.tuple hb
 cases r1
 obtain⟨⟨cls,dd,data,sl⟩,ho,hc,n,hd⟩:=id p1
 obtain⟨⟨cls2,dd2,data2,sl2⟩,ho2,hc2,n2,hd2⟩:=id p2
 simp only at hc hd hc2 hd2
 subst hc hd hc2 hd2
 exact concat_meets ⟨_,ho,rfl⟩ ⟨_,ho2,rfl⟩ noFill_tuple_add seq_tuple_add PySem.F.slot_tuple_add PySem.F.entry_tuple_add (PySem.F.args_tuple_add_2 _ _)
  (tuple_addW0 a b _ _ n n2 dd dd2 sl sl2 (by simp)) ⟨ho,ho2,⟨.ref b,H,I,rfl,q⟩⟩
end
open AutoSeq1 (wpAny_loadPart')
noncomputable def oo (a:Addr) (lo hi st:Int):HO:=.ext fun h=>∃t u v,h.get? a=some { cls:=.type "range", data:=.fields #[.int lo t,.int hi u,.int st v] }
noncomputable def oQ (lo st:Int) (n:Nat):List Int:=(List.range n).map fun(i:Nat)=>lo+(i:Int)*st
theorem pN (lo st:Int) (n:Nat):(oQ lo st n).length=n:=by simp[oQ]
theorem qI {lo st:Int} {n:Nat} {acc:Array Value} (h:ItemsOf (fun i v=>∃t,v=.int (lo+i*st) t) acc n):Vals ((oQ lo st n).map V.int) acc.toList:=by
 obtain⟨hs,hv⟩:=h
 have key:∀(l:List Value) (k:Nat),(∀j v,l[j]?=some v->∃t,v=Value.int (lo+((k+j:Nat):Int)*st) t)->Vals (((List.range' k l.length).map fun(i:Nat)=>lo+(i:Int)*st).map V.int) l:=by
  intro l
  induction l with
  | nil=>intro k _;exact .nil
  | cons a r ih=>
   intro k hk
   rw[List.length_cons,List.range'_succ,List.map_cons,List.map_cons]
   refine .cons ?_ (ih (k+1) fun j v e=>?_)
   ·obtain⟨t,q⟩:=hk 0 a rfl
    exact⟨t,by rw[q];simp⟩
   ·obtain⟨t,q⟩:=hk (j+1) v (by simpa using e)
    exact⟨t,by rw[q];congr 3;omega⟩
 have:=key acc.toList 0 fun j v e=>by
  obtain⟨t,q⟩:=hv j v (by simpa using e)
  exact⟨t,by rw[q];simp⟩
 unfold oQ
 rw[List.range_eq_range',<- hs]
 simpa using this
section
variable {X:Cx}
theorem Inv.rng {pins:List (Addr × Obj)} {σ:St} {H:Hp} {s:Shared} {lo hi st:Int} {t u v:Tok} {tk:Nat} (I:Inv X pins σ H s) :
  Inv X pins σ (upd H s.heap.objs.size (oo s.heap.objs.size lo hi st)) { s with heap:=s.heap.push { cls:=.type "range", data:=.fields #[.int lo t,.int hi u,.int st v] },toks:=tk }:=by
 refine I.laid (fun b o e=>Heap.get?_push_of_some _ e) (Nat.le_refl _) ?_
 refine⟨⟨t,u,v,Heap.get?_push_size _ rfl⟩,⟨_,Heap.get?_push_size _ rfl⟩,fun h1 h2 ⟨a,b,c,e⟩ k=>⟨a,b,c,k _ e⟩⟩
theorem tR:aR X (.type "range") (fun vs H Q=>∃j,vs=[.int j]/\∀p,H p=none->Q (.ref p) (upd H p (oo p 0 j 1))):=by
 intro pins s σ H xs us Q I r h
 obtain⟨j,rfl,q⟩:=h
 obtain⟨u,rfl,t,rfl⟩:=vals1 r
 exact call_range_1 ⟨.ref _,_,I.rng,rfl,q _ (I.hok.fresh (Nat.le_refl _))⟩
theorem t6:aR X (.type "range") (fun vs H Q=>∃i j,vs=[.int i,.int j]/\∀p,H p=none->Q (.ref p) (upd H p (oo p i j 1))):=by
 intro pins s σ H xs us Q I r h
 obtain⟨i,j,rfl,q⟩:=h
 obtain⟨u,w',rfl,⟨t,rfl⟩,⟨t',rfl⟩⟩:=vals2 r
 exact call_range_2 ⟨.ref _,_,I.rng,rfl,q _ (I.hok.fresh (Nat.le_refl _))⟩
structure sA (lo hi st:Int) (n:Nat):Prop where
 sm:Builtin.Range.small lo hi st=true
 sz:Builtin.Range.rangeSize lo hi st=n
 le:n<=2 ^ 20
theorem Inv.Ci {pins:List (Addr × Obj)} {σ:St} {H:Hp} {s:Shared} {p:Addr} {lo hi st:Int} (I:Inv X pins σ H s) (h:H p=some (oo p lo hi st)):∃t u v,IsRange s.heap p lo hi st t u v:=by
 obtain⟨⟨t,u,v,e⟩,_⟩:=I.hok p _ h
 exact⟨t,u,v,e⟩
theorem kT (hc:X.calm=true):aR X (.type "list") (fun vs H Q=>∃p lo hi st n,vs=[.ref p]/\H p=some (oo p lo hi st)/\sA lo hi st n/\∀l,H l=none->Q (.ref l) (upd H l (.lst ((oQ lo st n).map V.int)))):=by
 intro pins s σ H xs us Q I r h
 obtain⟨p,lo,hi,st,n,rfl,hp,ok,q⟩:=h
 obtain⟨u,rfl,rx⟩:=vals1 r
 cases rx
 obtain⟨t,u,v,hr⟩:=I.Ci hp
 have hn:=ok.le
 refine call_list_range (I.ok.hd hc) hr ok.sm ok.sz (by omega) fun h' tk acc c kp e hi=>?_
 have hv:=qI hi
 refine⟨.ref s.heap.objs.size,_,I.laid (t':=tk) kp (Nat.le_refl _) (show br X.prog X.w _ h' _ (.lst _) from⟨?_,acc.toList,c,hv,by simpa using e⟩),rfl,q _ (I.hok.fresh (Nat.le_refl _))⟩
 rw[List.length_map,pN,sizeLine_eq];omega
end
section
variable {X:Cx}
theorem vS {a b:Int} (h1:-1000000<=a) (h2:a<=1000000) (h3:-1000000<=b) (h4:b<=1000000) (h:b - a<=1000000):sA a b 1 (b - a).toNat:=
 ⟨small_one (by omega) (by omega) (by omega) (by omega),by rw[rangeSize_one];split<;>omega,by omega⟩
inductive RdD (K:PySem.W.Frag) (H:Hp):V->PyData->Prop
 | non:RdD K H .non .none
 | bl (b:Bool):RdD K H (.bl b) (.bool b)
 | int (i:Int):RdD K H (.int i) (.int i)
 | str (x:Str):RdD K H (.str x) (.str x)
 | tup {a:Addr} {xs:List V} {ds:List PyData} (h:SqT K H a xs) (hl:xs.length=ds.length) (hx:∀(i:Nat) x d,xs[i]?=some x->ds[i]?=some d->RdD K H x d):RdD K H (.ref a) (.tuple ds)
 | lst {a:Addr} {xs:List V} {ds:List PyData} (h:SqL K H a xs) (hl:xs.length=ds.length) (hx:∀(i:Nat) x d,xs[i]?=some x->ds[i]?=some d->RdD K H x d):RdD K H (.ref a) (.list ds)
theorem fm {h:Heap}:∀{us:List Value} {ds:List PyData},us.length=ds.length->(∀(i:Nat) u d,us[i]?=some u->ds[i]?=some d->∃as,Reads h u d as)->∃as,ReadsAll h us ds as
 | [],[],_,_=>⟨_,.nil⟩
 | [],_::_,hl,_=>by simp at hl
 | _::_,[],hl,_=>by simp at hl
 | u::us,d::ds,hl,hx=>by
  obtain⟨as,h1⟩:=hx 0 u d rfl rfl
  obtain⟨bs,h2⟩:=fm (us:=us) (ds:=ds) (by simpa using hl) fun i u d e1 e2=>hx (i+1) u d (by simpa using e1) (by simpa using e2)
  exact⟨_,.cons h1 h2⟩
theorem Vals.get' {xs:List V} {us:List Value} {i:Nat} {u:Value} (r:Vals xs us) (h:us[i]?=some u):∃x,xs[i]?=some x/\RelV x u:=by
 have hl:=r.length
 have hi:i<xs.length:=by rw[hl];exact(List.getElem?_eq_some_iff.mp h).1
 obtain⟨u',e1,e2⟩:=r.get (List.getElem?_eq_getElem hi)
 rw[h] at e1;cases e1
 exact⟨_,List.getElem?_eq_getElem hi,e2⟩
theorem Inv.reads {pins:List (Addr × Obj)} {σ:St} {H:Hp} {s:Shared} (I:Inv X pins σ H s) {x:V} {d:PyData} (r:RdD X.K H x d):∀u,RelV x u->∃as,Reads s.heap u d as:=by
 induction r with
 | non=>intro u ru;cases (show u=Value.none from ru);exact⟨_,.none⟩
 | bl b=>intro u ru;cases (show u=Value.bool b from ru);exact⟨_,.bool b⟩
 | int i=>intro u ru;obtain⟨t,q⟩:=(show ∃t,u=Value.int i t from ru);cases q;exact⟨_,.int i t⟩
 | str y=>intro u ru;obtain⟨t,q⟩:=(show ∃t,u=Value.str y t from ru);cases q;exact⟨_,.str y t⟩
 | @tup a xs ds h hl hx ih=>
  intro u ru
  cases (show u=Value.ref a from ru)
  obtain⟨its,rv,p,hz⟩:=I.tuple h
  obtain⟨o,ho,hc,n,hd⟩:=p
  obtain⟨as,ra⟩:=fm (h:=s.heap) (us:=its) (ds:=ds) (by rw[<- rv.length,hl]) fun i u d e1 e2=>by
   obtain⟨y,e3,ry⟩:=rv.get' e1
   exact ih i y d e3 e2 u ry
  exact⟨_,.tuple ho hc hd (by simpa using ra)⟩
 | @lst a xs ds h hl hx ih=>
  intro u ru
  cases (show u=Value.ref a from ru)
  obtain⟨its,rv,p,hz⟩:=I.list h
  obtain⟨o,ho,hc,n,hd⟩:=p.isList
  obtain⟨as,ra⟩:=fm (h:=s.heap) (us:=its) (ds:=ds) (by rw[<- rv.length,hl]) fun i u d e1 e2=>by
   obtain⟨y,e3,ry⟩:=rv.get' e1
   exact ih i y d e3 e2 u ry
  exact⟨_,.list ho hc hd (by simpa using ra)⟩
theorem uc (hg:X.A.guards=some []) (hu:X.A.units+64<cLine):aR X (.builtin "repr") (fun vs H Q=>∃p d,vs=[.ref p]/\RdD X.K H (.ref p) d/\d.showable=true/\d.hasDict=false/\d.depth<=60/\d.shown.length<=sizeLine/\Q (.str d.shown) H):=by
 intro pins s σ H xs us Q I r h
 obtain⟨p,d,rfl,rd,hs,hd,hdp,hz,q⟩:=h
 obtain⟨u,rfl,rx⟩:=vals1 r
 cases rx
 obtain⟨as,ra⟩:=I.reads rd (.ref p) rfl
 exact repr_of_reads' ra hs (PyData.noDict_hsm hd) hg (by omega) (fun _ _ e=>e) (fun h' u tk kp=>⟨.str d.shown,H,I.kept kp,⟨_,rfl⟩,q⟩) hz
theorem qj:aR X (.builtin "repr") (fun vs H Q=>∃i,vs=[.int i]/\i.natAbs.log2<1920/\Q (.str (toString i)) H):=by
 intro pins s σ H xs us Q I r h
 obtain⟨i,rfl,hi,q⟩:=h
 obtain⟨u,rfl,t,rfl⟩:=vals1 r
 exact PySem.P.repr_of_int hi ⟨.str (toString i),H,I.tok _,⟨_,rfl⟩,q⟩
end
theorem Inv.CG {X:Cx} {pins:List (Addr × Obj)} {σ:St} {H:Hp} {s:Shared} {C:Addr} {o:Obj} {h':Heap} (I:Inv X (pins++[(C,o)]) σ H s) (cC:∀x c,X.env.cells.lookup x=some c->c≠C) (hC:X.aH.heap.objs.size<=C) (pC:∀p∈X.pn++pins,p.1≠C) (hs:Heap.SameBut C s.heap h'):Inv X pins σ H { s with heap:=h' }:=by
 have kb:∀b u,b≠C->s.heap.get? b=some u->h'.get? b=some u:=fun b u hb z=>hs.extBut b u hb z
 obtain⟨q0,q1,q2,q3,q4⟩:=I.pin (C,o) (List.mem_append_right _ (List.mem_append_right _ (List.mem_singleton.mpr rfl)))
 have J:Inv X pins σ H s:=I.jH fun p hp=>I.pin p (List.mem_append_right _ (List.mem_append_left _ hp))
 refine J.pR (s':={ s with heap:=h' }) (ch:=[C]) rfl ⟨fun b u z n a c=>kb b u (fun e=>c (by rw[e];exact List.mem_singleton.mpr rfl)) z,fun b u z n a c=>⟨u.slots,kb b _ (fun e=>c (by rw[e];exact List.mem_singleton.mpr rfl)) z⟩,fun b u z n c=>n,fun b u z c=>⟨u,kb b u (fun e=>c (by rw[e];exact List.mem_singleton.mpr rfl)) z⟩,fun b xs z=>z,fun b ob u z=>z,fun b ps z=>⟨#[],by simpa using z⟩⟩ (J.hok.sameBut q1 kb) J.bare fun b hb=>?_
 have e:=List.mem_singleton.mp hb
 subst e
 exact⟨.inr hC,q2,fun x c z=>cC x c z,pC⟩
theorem Inv.yielded {X:Cx} {pins:List (Addr × Obj)} {σ:St} {H:Hp} {s:Shared} {fp:List Addr} {T:Addr} {o:HO} {h':Heap} {t':Nat} (I:Inv X pins σ H s) (hf:∀b∈fp,lr X pins H b) (k:∀b u,b∉fp->s.heap.get? b=some u->h'.get? b=some u)
  (hT:s.heap.objs.size<=T) (new:br X.prog X.w (upd H T o) h' T o):Inv X pins σ (upd H T o) { s with heap:=h',toks:=t' }:=by
 have nT:∀b u,s.heap.get? b=some u->b≠T:=fun b u e z=>absurd (Heap.lt_size e) (by rw[z];exact Nat.not_lt.mpr hT)
 have nH:∀b u,H b=some u->b≠T:=fun b u e z=>absurd (I.hok.lt e) (by rw[z];exact Nat.not_lt.mpr hT)
 have nf:∀b u,H b=some u->b∉fp:=fun b u e z=>by rw[(hf b z).1] at e;cases e
 refine I.pR (s':={ s with heap:=h',toks:=t' }) (ch:=fp) rfl ⟨fun b u e n _ c=>k b u c e,fun b u e n _ c=>⟨u.slots,k b u c e⟩,fun b u e n c=>by rw[ay (nT b u e)];exact n,fun b u e c=>⟨u,k b u c e⟩,fun b xs e=>by rw[ay (nH b _ e)];exact e,fun b ob u e=>by rw[ay (nH b _ e)];exact e,fun b ps e=>⟨#[],by rw[ay (nH b _ e),e];simp⟩⟩ (fun b u e=>?_) I.bare (fun b hb=>?_)
 ·by_cases hb:b=T
  ·subst hb
   rw[aJ] at e
   cases e
   exact new
  ·rw[ay hb] at e
   refine(I.hok b u e).g_ (fun c v hc q=>k c v ?_ q) (fun c q=>by rw[ay (nH c _ q)];exact q) fun c xs q=>by rw[ay (nH c _ q)];exact q
   rcases hc with z | z
   ·rw[z];exact nf b u e
   ·exact nf c _ z
 ·obtain⟨_,g1,_,g3,g4,g5⟩:=hf b hb
  exact⟨g3,g1,g4,g5⟩
theorem Inv.yN {X:Cx} {pins:List (Addr × Obj)} {σ:St} {H:Hp} {s:Shared} {fp:List Addr} {h':Heap} {t':Nat} (I:Inv X pins σ H s) (hf:∀b∈fp,lr X pins H b) (k:∀b u,b∉fp->s.heap.get? b=some u->h'.get? b=some u):Inv X pins σ H { s with heap:=h',toks:=t' }:=by
 have nf:∀b u,H b=some u->b∉fp:=fun b u e z=>by rw[(hf b z).1] at e;cases e
 refine I.pR (s':={ s with heap:=h',toks:=t' }) (ch:=fp) rfl ⟨fun b u e n _ c=>k b u c e,fun b u e n _ c=>⟨u.slots,k b u c e⟩,fun b u e n c=>n,fun b u e c=>⟨u,k b u c e⟩,fun b xs e=>e,fun b ob u e=>e,fun b ps e=>⟨#[],by rw[e];simp⟩⟩ (fun b u e=>?_) I.bare (fun b hb=>?_)
 ·refine(I.hok b u e).g_ (fun c v hc q=>k c v ?_ q) (fun c q=>q) fun c xs q=>q
  rcases hc with z | z
  ·rw[z];exact nf b u e
  ·exact nf c _ z
 ·obtain⟨_,g1,_,g3,g4,g5⟩:=hf b hb
  exact⟨g3,g1,g4,g5⟩
theorem xk {h:Heap} {e it:Addr} {i:Int} {old:Value} (z:IsEnum h e it i old):∃o,h.get? e=some o/\∀v,o.data≠.cell v:=⟨_,z,fun v q=>nomatch q⟩
theorem qk {prog:Program} {w:World} {A:Around} {it:Addr} {fp:List Addr} {n:Nat} {P:Nat->Value->Prop} {St:Nat->Heap->Prop} (D:Draws prog w A.in1 it fp n P St) (e:Addr) (hei:e≠it) (hef:e∉fp) (i:Nat) (s:Shared) (Q:Option Value->Shared->Prop) (E:Value->Shared->Prop) (hi:i<n)
  (hst:(∃old,IsEnum s.heap e it i old)/\St i s.heap)
  (hQ:∀T vals h' tk,(∃t x,P i x/\vals = #[.int i t,x])->s.heap.objs.size<=T->lq h' T vals->((∃x,IsEnumOut h' e it ((i:Int)+1) x T)/\St (i+1) h'/\T≠e/\T≠it)->(∀b o,b∉[e,it]->s.heap.get? b=some o->h'.get? b=some o)->Q (some (.ref T)) { s with heap:=h',toks:=tk }) :
  wpAny (model prog w) A (pyNext (.ref e)) Q E s:=by
 obtain⟨⟨old,he⟩,hs⟩:=hst
 refine wpAny_pyNext_enum_itemD D he hs hi hei hef fun x h1 tk hP ho hs1 hT _ hk=>?_
 refine hQ s.heap.objs.size #[.int i tk,x] h1 (tk+1) ⟨tk,x,hP,rfl⟩ (Nat.le_refl _) ⟨_,hT,⟨rfl,_,rfl⟩,rfl⟩ ⟨⟨_,ho⟩,hs1,Nat.ne_of_gt (Heap.lt_size he),?_⟩ fun b o hb y=>hk b o (fun z=>hb (by simp[z])) (fun z=>hb (by simp[z])) y
 obtain⟨_,y⟩:=D.live _ _ hs
 exact Nat.ne_of_gt (Heap.lt_size y)
noncomputable def vc (nt:Nat) (ix:List Nat) (σ:St):St:=List.replicate nt none++ix.map fun i=>(σ[i]?).join
noncomputable def pV (nt:Nat) (ix:List Nat) (σ σ':St):Prop:=∃ts:St,ts.length=nt/\σ'=ts++ix.map fun i=>(σ[i]?).join
noncomputable abbrev Ag (J:It) (nt:Nat) (ix:List Nat) (σ:St) (tg:TG) (tt:TT) (te:TE) (acc:Addr) (H1:Hp) (Q:VK):Prop:=
 ∃W:Nat->Nat->List V->Hp->Prop,(∃m,W 0 m [] (upd H1 acc (.lst [])))/\∀i m ys H,W i m ys H →
  (J.stop i H/\Q (.ref acc) H)\/(J.go i H/\∀σ0 x H',pV nt ix σ σ0->J.yld i H x H'->tg x σ0 H' fun σ2 Hn=>pV nt ix σ σ2/\tt σ2 Hn fun b H2=>if b=true then te σ2 H2 fun y H3=>
    H3 acc=some (.lst ys)/\ys.length<sizeLine/\∃m',m'<m/\W (i+1) m' (ys++[y]) (upd H3 acc (.lst (ys++[y])))
   else ∃m',m'<m/\W (i+1) m' ys H2)
noncomputable def nQ (wi:TI) (nt:Nat) (ix:List Nat) (tg:TG) (tt:TT) (te:TE):TE:=fun σ H Q=>wi σ H fun J H1=>∀acc,H1 acc=none->Ag J nt ix σ tg tt te acc H1 Q
theorem lQ {X:Cx} {use:Option (Value->Sem Unit)} {Q2:Value->Shared->Prop} {pins:List (Addr × Obj)} {s:Shared} {σ:St} {H:Hp} {Q:VK} {elt iter tg:Expr} {tn':List Str} {tgr:TG} {ifs:List Expr} {scope osc:Scope} {pos:Pos} {wi:TI} {tt:TT} {te:TE} (ix:List Nat) (N':List Str)
  (hxe:X.xe=fun _ _=>False) (hc:X.calm=true) (ho:X.env.scope=osc) (hN:N'=tn'++ix.map fun i=>(X.N[i]?).getD ("" : Str)) (hnd:N'.Nodup)
  (hall:(∀y∈scope.names,y.2=.free->osc.names.lookup y.1=some .cell)/\(∀y∈scope.names,y.2≠.cell)/\scope.kind=.function/\(∀y∈scope.names,y.2=.local->scope.names.lookup y.1=some .local)/\(∀y∈N'.drop tn'.length,scope.names.lookup y=some .free))
  (hi:PI X tg iter wi) (hg:∀cl C aH aS fp,PG (cn X scope cl C aH aS fp N') tg tgr)
  (ht:∀cl C aH aS fp,PTs (cn X scope cl C aH aS fp N') ifs tt)
  (he:∀cl C aH aS fp,PE (cn X scope cl C aH aS fp N') elt te)
  (hs:∀x,foldedSetIterable iter X.env x=pure x) (I:Inv X pins σ H s) (h:nQ wi tn'.length ix tgr tt te σ H Q)
  (hfin:∀(acc C:Addr) (H5:Hp) (s5:Shared) (o:Obj),Inv X (pins++[(C,o)]) σ H5 s5->(∀x c,X.env.cells.lookup x=some c->c≠C)->X.aH.heap.objs.size<=C->(∀p∈X.pn++pins,p.1≠C)->(∃m,∀h':Heap,h'.get? C=some o->h'.Ns C m)->Q (.ref acc) H5->compPost (model X.prog X.w) X.A X.xe use Q2 (.ref acc) C (.ok .next) s5) :
  wpAny (model X.prog X.w) X.A (comprehension (.ListComp elt [⟨tg,iter,ifs,0⟩] scope pos) scope X.env (firstIterPos [⟨tg,iter,ifs,0⟩] pos) (newList []) false (eval iter X.env) use) Q2 X.xe s:=by
 obtain⟨hfr,hcell,hkind,hnames,hcap⟩:=hall
 subst ho
 have outc:∀y∈scope.names,y.2=.free->X.env.kindOf y.1=some .cell:=fun y hy q=>hfr y hy q
 obtain⟨cl,hclos,hcl1,hcl2⟩:=k_ (env:=X.env) (scope:=scope) fun y hy q=>I.ok.has y.1 (.inl (outc y hy q))
 refine wpAny_comprehension_free (use:=use) rfl hs hclos hkind hnames (thn (hi pins s σ H _ I h) fun v s1 h1=>thn h1 fun itv s2 h2=>?_)
 obtain⟨it,fp,tn,J,H2,e,I2,T,st2,f2,rest⟩:=h2
 subst e
 have hf2:H2 s2.heap.objs.size=none:=I2.hok.fresh (Nat.le_refl _)
 obtain⟨W,⟨m0,w0⟩,turn⟩:=rest s2.heap.objs.size hf2
 -- the list
 refine wpAny_newObj_type ?_
 have I3:Inv X pins σ (upd H2 s2.heap.objs.size (.lst [])) { s2 with heap:=s2.heap.push { cls:=.type "list", dict:=none,data:=.seq ([]:List Value).toArray } }:=I2.sQ (its:=[]) (t':=s2.toks) .nil (Nat.zero_le _)
 have keep3:∀b o,s2.heap.get? b=some o->(s2.heap.push { cls:=.type "list", dict:=none,data:=.seq ([]:List Value).toArray }).get? b=some o:=fun b o q=>Heap.get?_push_of_some _ q
 have fp3:∀b∈fp,∃o,s2.heap.get? b=some o/\∀v,o.data≠.cell v:=T.obj _ _ st2
 have st3:tn 0 (s2.heap.push { cls:=.type "list", dict:=none,data:=.seq ([]:List Value).toArray }):=T.keep _ _ _ st2 fun b _ o q=>keep3 b o q
 have fpn:∀b∈fp,(upd H2 s2.heap.objs.size (HO.lst [])) b=none:=fun b hb=>by
  obtain⟨o,q,_⟩:=fp3 b hb
  rw[ay (Nat.ne_of_lt (Heap.lt_size q))]
  exact(f2 b hb).1
 revert I3 keep3 st3 fpn w0
 generalize hS3:({ s2 with heap:=s2.heap.push { cls:=.type "list", dict:=none,data:=.seq ([]:List Value).toArray } }:Shared)=s3
 generalize hH3:upd H2 s2.heap.objs.size (HO.lst [])=H3
 intro w0 I3 keep3 st3 fpn
 have acc3:H3 s2.heap.objs.size=some (.lst []):=by rw[<- hH3];exact aJ
 generalize s2.heap.objs.size=acc at *
 have e3:s2.heap.push { cls:=.type "list", dict:=none,data:=.seq ([]:List Value).toArray }=s3.heap:=by rw[<- hS3]
 have keep3':∀b o,s2.heap.get? b=some o->s3.heap.get? b=some o:=fun b o q=>by rw[<- e3];exact keep3 b o q
 have st3':tn 0 s3.heap:=by rw[<- e3];exact st3
 refine wpAny_newFunctionEnv hcell (by intro y hy;simp at hy) (fun h₁ hns₁ hsb₁=>?_) hkind
 have hC:s3.heap.objs.size=s3.heap.objs.size:=rfl
 have keep4:∀b o,s3.heap.get? b=some o->h₁.get? b=some o:=fun b o q=>hsb₁.extBut b o (Nat.ne_of_lt (Heap.lt_size q)) (Heap.get?_push_of_some _ q)
 have fpC:∀b∈fp,b≠s3.heap.objs.size:=fun b hb=>by
  obtain⟨o,q,_⟩:=fp3 b hb
  exact Nat.ne_of_lt (Heap.lt_size (keep3' b o q))
 -- the block's context
 generalize hX':cn X scope cl s3.heap.objs.size s3 H3 fp N'=X'
 have hXp:X'.prog=X.prog:=by rw[<- hX'];rfl
 have hXw:X'.w=X.w:=by rw[<- hX'];rfl
 have hXK:X'.K=X.K:=by rw[<- hX'];rfl
 have hXA:X'.A=X.A:=by rw[<- hX'];rfl
 have hXe:X'.env=compEnvC scope cl s3.heap.objs.size X.env:=by rw[<- hX'];rfl
 have hXc:X'.calm=true:=by rw[<- hX'];exact hc
 have hXx:X'.xe=fun _ _=>False:=by rw[<- hX'];exact hxe
 have hXf:X'.fs=frs X.stack:=by rw[<- hX'];rfl
 have hXex:X'.ex=fp:=by rw[<- hX'];rfl
 have hXN:X'.N=N':=by rw[<- hX'];rfl
 have hXs:X'.aH=s3:=by rw[<- hX'];rfl
 have hXH:X'.aS=H3:=by rw[<- hX'];rfl
 have hXpn:X'.pn=[]:=by rw[<- hX'];rfl
 have okX:X'.Ok:=by
  rw[<- hX']
  refine⟨I3.ok.mod,hkind,I3.ok.glob,I3.ok.blt,Nat.le_refl _,fun a b c p q=>I3.ok.inj a b c (hcl1 a c p) (hcl1 b c q),fun y hy=>?_,fun _ _ z=>(by cases z),I3.ok.hd,I3.ok.frames,.inl rfl,fun b hb=>⟨fpC b hb,fun y c p=>(f2 b hb).2.2.2.2.1 y c (hcl1 y c p)⟩,
   I3.bs,Nat.le_trans I3.ok.bsz I3.sz,fun b o p hb=>?_,fun b hb z=>?_,I3.stack,I3.mH⟩
  ·have hy':(relabel scope X.env).names.lookup y=some .cell\/(relabel scope X.env).names.lookup y=some .free:=hy
   have free:scope.names.lookup y=some .free->∃c,cl.lookup y=some c:=fun q=>hcl2 y (lookup_mem q)
   rcases hy' with q | q
   ·rcases eH q with z | ⟨z,_⟩
    ·exact absurd rfl (hcell _ (lookup_mem z))
    ·exact free z
   ·rcases eH q with z | ⟨_,z⟩
    ·exact free z
    ·cases z
  ·rcases(f2 b hb).2.2.2.1 with z | z
   ·exact I3.ok.nP b o p z
   ·exact absurd (Nat.lt_of_lt_of_le (Heap.lt_size p) (Nat.le_trans I3.ok.bsz z)) (Nat.lt_irrefl _)
  ·rcases List.mem_cons.mp (I3.e_ b z) with q | q
   ·exact(f2 b hb).2.1 q
   ·exact(f2 b hb).2.2.1 q
 have I4:∀tk,Inv X' [] (vc tn'.length ix σ) H3 { s3 with heap:=h₁,toks:=tk }:=fun tk=>by
  have hloc:=I3.loc
  refine⟨okX,by rw[hXs],I3.bare,?_,⟨fun y=>([]:List (Str × Value)).reverse.lookup y,by rw[hXe];exact hns₁,fun i y v e1 e2 e3=>?_⟩,fun y c p=>?_,?_,fun y c p=>?_,fun p hp=>?_,?_,?_⟩
  ·rw[hXf,hXex,hXH,hXs];exact Un.kept keep4
  ·rw[hXN,hN] at e1
   by_cases hit':i<tn'.length
   ·exfalso
    unfold vc at e2
    rw[List.getElem?_append_left (by simpa using hit'),List.getElem?_replicate,if_pos hit'] at e2
    cases e2
   ·have e10:N'[i]?=some y:=by rw[hN];exact e1
    obtain⟨j,rfl⟩:∃j,i=tn'.length+j:=⟨i - tn'.length,by omega⟩
    have e1':(ix.map fun i=>(X.N[i]?).getD ("" : Str))[j]?=some y:=by
     rw[List.getElem?_append_right (by omega)] at e1
     rw[show tn'.length+j - tn'.length=j by omega] at e1
     exact e1
    have e2':(ix.map fun i=>(σ[i]?).join)[j]?=some (some v):=by
     unfold vc at e2
     rw[List.getElem?_append_right (by simp)] at e2
     simpa using e2
    rw[List.getElem?_map] at e1' e2'
    cases hj:ix[j]? with
    | none=>rw[hj] at e1';cases e1'
    | some i0=>
     rw[hj] at e1' e2'
     have e1'':(X.N[i0]?).getD ("" : Str)=y:=by simpa using e1'
     have e2'':(σ[i0]?).join=some v:=by simpa using e2'
     have hsv:σ[i0]?=some (some v):=by
      cases q:σ[i0]? with
      | none=>rw[q] at e2'';cases e2''
      | some z=>rw[q] at e2'';have:z=some v:=by simpa using e2''
                rw[this]
     have hlt:i0<X.N.length:=by
      have:=(List.getElem?_eq_some_iff.mp hsv).1
      rw[I3.len] at this;exact this
     have hNy:X.N[i0]?=some y:=by
      rw[List.getElem?_eq_getElem hlt] at e1'' ⊢
      simpa using e1''
     have hyt:y∈N'.drop tn'.length:=by
      refine List.mem_of_getElem? (i:=j) ?_
      rw[List.getElem?_drop];exact e10
     have hyf:=hcap y hyt
     have hyc:=outc (y,.free) (lookup_mem hyf) rfl
     obtain⟨m,hn,hl⟩:=hloc
     obtain⟨u,r,l⟩:=hl i0 y v hNy hsv (.inr (.inl hyc))
     refine⟨u,r,?_⟩
     rcases l with⟨k1,_⟩ | ⟨_,c,p,z⟩
     ·have hyc':X.env.kindOf y=some .cell:=hyc
      rw[k1] at hyc';cases hyc'
     ·obtain⟨c',p'⟩:=hcl2 y (lookup_mem hyf)
      have pc:c'=c:=by
       have:=hcl1 y c' p'
       rw[p] at this;cases this;rfl
      subst pc
      refine .inr ⟨.inl ?_,c',by rw[hXe];exact p',?_⟩
      ·rw[hXe];exact di I3.ok.kind hyf hyc
      ·obtain⟨o,q1,q2⟩:=z
       exact⟨o,keep4 c' o q1,q2⟩
  ·rw[hXe] at p
   obtain⟨v,o,q1,q2⟩:=I3.cell y c (hcl1 y c p)
   exact⟨v,o,keep4 c o q1,q2⟩
  ·rw[hXe];exact I3.hok.fresh (Nat.le_refl _)
  ·rw[hXe] at p;exact I3.cD y c (hcl1 y c p)
  ·rw[hXpn] at hp;cases hp
  ·rw[hXp,hXw];exact I3.hok.kept keep4
  ·rw[hXN,hN];simp[vc]
 -- the loop
 have stat:∀{H':Hp},(∀b∈fp,H' b=none)->∀b∈fp,lr X' [] H' b:=fun hn b hb=>by
  refine⟨hn b hb,by rw[hXe];exact fpC b hb,?_,.inl (by rw[hXex];exact hb),fun y c p=>?_,fun p hp=>by rw[hXpn] at hp;cases hp⟩
  ·rw[hXf];intro z
   rcases List.mem_cons.mp (I3.e_ b z) with q | q
   ·exact(f2 b hb).2.1 q
   ·exact(f2 b hb).2.2.1 q
  ·rw[hXe] at p;exact(f2 b hb).2.2.2.2.1 y c (hcl1 y c p)
 have fin:∀{H5:Hp} {s5:Shared} {σ5:St},Inv X' [] σ5 H5 s5->Q (.ref acc) H5->compPost (model X.prog X.w) X.A X.xe use Q2 (.ref acc) s3.heap.objs.size (.ok .next) s5:=fun{H5 s5 σ5} I5 q=>by
  obtain⟨m,hn,_⟩:=I5.loc
  rw[hXe] at hn
  have hn':s5.heap.Ns s3.heap.objs.size m:=hn
  obtain⟨oC,esC,epC,hC1,hC2,hC3⟩:=hn'
  have u5:=I5.base
  rw[hXf,hXex,hXH,hXs] at u5
  have fr:H5 s3.heap.objs.size=none:=by have:=I5.free;rw[hXe] at this;exact this
  have hok5:=I5.hok
  rw[hXp,hXw] at hok5
  have hos:s5.os=s3.os:=by have:=I5.os;rw[hXs] at this;exact this
  have IX:Inv X pins σ H5 s5:=I3.pR (s':=s5) (ch:=fp) hos u5 hok5 I5.bare (fun b hb=>by
   obtain⟨g0,g1,g2,g3,g4,g5⟩:=f2 b hb
   exact⟨g3,g1,g4,g5⟩)
  have cC:∀x c,X.env.cells.lookup x=some c->c≠s3.heap.objs.size:=fun x c z e=>by
   obtain⟨v,q⟩:=I3.cell x c z
   exact absurd q.lt (by rw[e];exact Nat.lt_irrefl _)
  have pC:∀p∈X.pn++pins,p.1≠s3.heap.objs.size:=fun p hp e=>by
   have:=Heap.lt_size (I3.pin p hp).1
   rw[e] at this
   exact Nat.lt_irrefl _ this
  refine hfin acc s3.heap.objs.size H5 s5 oC (IX.jH fun p hp=>?_) cC I3.sz pC ⟨m,fun h' z=>⟨oC,esC,epC,z,hC2,hC3⟩⟩ q
  rcases List.mem_append.mp hp with z | z
  ·exact IX.pin p (List.mem_append_right _ z)
  ·have e:=List.mem_singleton.mp z
   subst e
   refine⟨hC1,fr,Nat.ne_of_gt I3.lt,I3.Cw (Nat.le_refl _),fun v e=>?_⟩
   have e':oC.data=.cell v:=e
   rw[hC2] at e';cases e'
 have loop:∀tk,codeAny (model X.prog X.w) X.A (.compLoop (.ListComp elt [⟨tg,iter,ifs,0⟩] scope pos) 0 (.ref it) (.ref acc) (compEnvC scope cl s3.heap.objs.size X.env))
   (compPost (model X.prog X.w) X.A X.xe use Q2 (.ref acc) s3.heap.objs.size) { s3 with heap:=h₁,toks:=tk }:=fun tk=>by
  refine pO (fun n s'=>∃i ys σ' H',Inv X' [] σ' H' s'/\pV tn'.length ix σ σ'/\tn i s'.heap/\(∀b∈fp,H' b=none)/\W i n ys H') (fun n s5 h5=>?_) m0
   ⟨0,[],vc tn'.length ix σ,H3,I4 tk,⟨_,List.length_replicate,rfl⟩,T.keep _ _ _ st3' fun b _ o q=>keep4 b o q,fpn,w0⟩
  obtain⟨i,ys,σ5,H5,I5,hσ,st5,fr5,w5⟩:=h5
  rcases turn i n ys H5 w5 with⟨stop,q⟩ | ⟨go,step⟩
  ·have d:=T.done X' hXp hXw hXK hXc i [] s5 σ5 H5 (fun _ _=>False) I5 (stat fr5) st5 stop
   rw[hXA] at d
   refine thn d fun r s6 ⟨hr,I6⟩=>?_
   subst hr
   exact fin I6 q
  ·have d:=T.item X' hXp hXw hXK hXc i [] s5 σ5 H5 (fun _ _=>False) I5 (stat fr5) st5 go
   rw[hXA] at d
   refine thn d fun r s6 ⟨u,hr,h6⟩=>?_
   subst hr
   refine thn h6 fun _ s7 ⟨z,H7,I7,r7,y7,st7,fr7⟩=>?_
   have I7':=I7.pinned (stat fr7) (T.obj _ _ st7)
   have again:∀{H9:Hp} {s9:Shared} {ys9:List V} {σ9:St},Inv X' ([]++jV fp s7.heap) σ9 H9 s9->pV tn'.length ix σ σ9->(∃m',m'<n/\W (i+1) m' ys9 H9)->∃m',m'<n/\∃i ys σ' H',Inv X' [] σ' H' s9/\pV tn'.length ix σ σ'/\tn i s9.heap/\(∀b∈fp,H' b=none)/\W i m' ys H':=fun{H9 s9 ys9 σ9} I9 c9 ⟨m',hm,w9⟩=>by
    refine⟨m',hm,i+1,ys9,_,H9,I9.gT,c9,T.keep _ _ _ st7 fun b hb o e=>(I9.pin (b,o) (List.mem_append_right _ (List.mem_append_right _ (eM hb e)))).1,fun b hb=>?_,w9⟩
    obtain⟨o,e,_⟩:=T.obj _ _ st7 b hb
    exact(I9.pin (b,o) (List.mem_append_right _ (List.mem_append_right _ (eM hb e)))).2.1
   have ht':=ht cl s3.heap.objs.size s3 H3 fp
   have he':=he cl s3.heap.objs.size s3 H3 fp
   have hg':=hg cl s3.heap.objs.size s3 H3 fp
   rw[hX'] at ht' he' hg'
   rw[<- hXe]
   have a0:=hg' _ s7 σ5 H7 z u _ I7' r7 (step σ5 z H7 hσ y7)
   rw[hXp,hXw,hXA,hXx] at a0
   refine thn a0 fun _ s8 ⟨σ8,H8,I8,c8,q8⟩=>?_
   have a1:=ht' _ s8 _ H8 _ I8 q8
   rw[hXp,hXw,hXA,hXx] at a1
   refine thn a1 fun b s9 ⟨H9,I9,q9⟩=>?_
   cases b with
   | false=>exact again I9 c8 q9
   | true=>
    have a2:=he' _ s9 _ H9 _ I9 q9
    rw[hXp,hXw,hXA,hXx] at a2
    refine thn a2 fun yv s10 ⟨y,H10,I10,r10,q1,q2,q3⟩=>?_
    have a3:=cT (X:=X') _ s10 _ H10 (.ref acc) [y] (.ref acc) [yv] (fun _ Hq=>∃m',m'<n/\W (i+1) m' (ys++[y]) Hq) I10 rfl (.cons r10 .nil) ⟨acc,ys,y,rfl,rfl,q1,q2,q3⟩
    rw[hXp,hXw,hXA,hXx] at a3
    exact thn a3 fun _ s11 ⟨_,H11,I11,_,q11⟩=>again I11 c8 q11
 refine codeAny_compStart_list (loop _) ?_
 exact T.self _ 0 _ _ _ (T.keep _ _ _ st3' fun b _ o q=>keep4 b o q) (loop _)
section
variable {X:Cx} {elt iter tg:Expr} {tn':List Str} {tgr:TG} {ifs:List Expr} {scope osc:Scope} {pos:Pos} {wi:TI} {tt:TT} {te:TE}
theorem vA (ix:List Nat) (tn' N':List Str)
  (hxe:X.xe=fun _ _=>False) (hc:X.calm=true) (ho:X.env.scope=osc) (hN:N'=tn'++ix.map fun i=>(X.N[i]?).getD ("" : Str)) (hnd:N'.Nodup)
  (hall:(∀y∈scope.names,y.2=.free->osc.names.lookup y.1=some .cell)/\(∀y∈scope.names,y.2≠.cell)/\scope.kind=.function/\(∀y∈scope.names,y.2=.local->scope.names.lookup y.1=some .local)/\(∀y∈N'.drop tn'.length,scope.names.lookup y=some .free))
  (hi:PI X tg iter wi) (hg:∀cl C aH aS fp,PG (cn X scope cl C aH aS fp N') tg tgr)
  (ht:∀cl C aH aS fp,PTs (cn X scope cl C aH aS fp N') ifs tt)
  (he:∀cl C aH aS fp,PE (cn X scope cl C aH aS fp N') elt te)
  (hs:∀x,foldedSetIterable iter X.env x=pure x:=by intro _;rfl) :
  PE X (.ListComp elt [⟨tg,iter,ifs,0⟩] scope pos) (nQ wi tn'.length ix tgr tt te):=by
 intro pins s σ H Q I h
 have e:eval (.ListComp elt [⟨tg,iter,ifs,0⟩] scope pos) X.env=comprehension (.ListComp elt [⟨tg,iter,ifs,0⟩] scope pos) scope X.env (firstIterPos [⟨tg,iter,ifs,0⟩] pos) (newList []) false (eval iter X.env) none:=by
  rw[eval_ListComp];rfl
 rw[e]
 refine lQ (use:=none) (Q2:=EP X pins σ Q) ix N' hxe hc ho hN hnd hall hi hg ht he hs I h fun acc C H5 s5 o I5 cC hC pC hm q=>?_
 obtain⟨m,hm⟩:=hm
 exact⟨m,hm _ (I5.pin (C,o) (List.mem_append_right _ (List.mem_append_right _ (List.mem_singleton.mpr rfl)))).1,fun h' hs'=>⟨.ref acc,H5,I5.CG cC hC pC hs',rfl,q⟩⟩
theorem p5 {y:Str} {py spos:Pos} {i:Nat} (ix:List Nat) (tn' N':List Str)
  (hxe:X.xe=fun _ _=>False) (hc:X.calm=true) (ho:X.env.scope=osc) (hN:N'=tn'++ix.map fun i=>(X.N[i]?).getD ("" : Str)) (hnd:N'.Nodup)
  (hall:(∀y∈scope.names,y.2=.free->osc.names.lookup y.1=some .cell)/\(∀y∈scope.names,y.2≠.cell)/\scope.kind=.function/\(∀y∈scope.names,y.2=.local->scope.names.lookup y.1=some .local)/\(∀y∈N'.drop tn'.length,scope.names.lookup y=some .free))
  (hi:PI X tg iter wi) (hg:∀cl C aH aS fp,PG (cn X scope cl C aH aS fp N') tg tgr)
  (ht:∀cl C aH aS fp,PTs (cn X scope cl C aH aS fp N') ifs tt)
  (he:∀cl C aH aS fp,PE (cn X scope cl C aH aS fp N') elt te)
  (hNN:X.N.Nodup) (hy:X.N[i]?=some y) (hl:X.env.scope.names.lookup y=some .local)
  (hsw:swapsWith (.ListComp elt [⟨tg,iter,ifs,0⟩] scope pos) (some (.Name y py)) spos.line X.env=pure true:=by rfl)
  (hs:∀x,foldedSetIterable iter X.env x=pure x:=by intro _;rfl) :
  PS X (.Assign [.Name y py] (.ListComp elt [⟨tg,iter,ifs,0⟩] scope pos) spos) (AZ (nQ wi tn'.length ix tgr tt te) (h9 i)):=by
 intro pins s σ H D I h
 rw[exec_Assign_Name_used _ _ _ _ hsw]
 refine wpAny_bind (wpAny_standAt ?_)
 show wpAny _ _ (evalThenUse (.ListComp elt [⟨tg,iter,ifs,0⟩] scope pos) X.env (assign (.Name y py) X.env) >>= fun _=>pure Flow.next) _ _ _
 refine wpAny_bind ?_
 show wpAny _ _ (comprehension (.ListComp elt [⟨tg,iter,ifs,0⟩] scope pos) scope X.env (firstIterPos [⟨tg,iter,ifs,0⟩] pos) (newList []) false (eval iter X.env) (some (assign (.Name y py) X.env)) >>= fun _=>pure ()) _ _ _
 refine wpAny_bind (lQ (use:=some (assign (.Name y py) X.env)) ix N' hxe hc ho hN hnd hall hi hg ht he hs I h fun acc C H5 s5 o I5 cC hC pC hm q=>?_)
 obtain⟨m,hm⟩:=hm
 refine wpAny_assign_Name (eC (i:=i) (v:=.ref acc) I5 hNN hy (.inl hl) rfl (fun s6 I6=>?_) (.inr hl))
 refine⟨m,hm _ (I6.pin (C,o) (List.mem_append_right _ (List.mem_append_right _ (List.mem_singleton.mpr rfl)))).1,fun h' hs'=>?_⟩
 exact wpAny_pure (wpAny_pure ⟨_,H5,I6.CG cC hC pC hs',q⟩)
end
section
variable {X:Cx} {pins:List (Addr × Obj)} {σ:St} {H:Hp} {s:Shared} {a:Addr} {y v:V} {u r:Value} {o:Option V} {A:Around} {E:Value->Shared->Prop}
theorem Inv.big (I:Inv X pins σ H s):sysModules<s.heap.objs.size:=by
 have h:mainGlobals<s.heap.objs.size:=(I.mod.glob.keeps I.bk).lt
 exact Nat.lt_trans (by decide) h
end
theorem vW {P:Program} {w:World} {H:Hp} (h:Heap) (hb:sysModules<h.objs.size):br P w H (h.push { cls:=.type "dict", data:=.dict #[] }) h.objs.size (.dK []):=
 ⟨Nat.zero_le _,beq_eq_false_iff_ne.mpr (Ne.symm (Nat.ne_of_lt hb)),[],.nil,Heap.DictOf.new h⟩
noncomputable def zT:TE:=fun _ H Q=>∀p,H p=none->Q (.ref p) (upd H p (.dK []))
section
variable {X:Cx} {pos:Pos}
theorem uX:PE X (.Dict [] [] pos) zT:=fun pins s σ H Q I h=>
 wpAny_Dict_empty ⟨.ref s.heap.objs.size,_,I.laid (a:=s.heap.objs.size) (o:=.dK []) (t':=s.toks) (fun _ _ q=>Heap.get?_push_of_some _ q) (Nat.le_refl _) (vW s.heap I.big),rfl,h _ (I.hok.fresh (Nat.le_refl _))⟩
end
end L2
namespace L2.FE
open PySem PySem.Spec PyProof.Rows
inductive D where
 | non | bl (b:Bool) | int (i:Int) | str (x:Str) | tup (ds:List D) | frl (ds:List D) | ref (n:Nat) | fn (x:Str) | edic | scr (ds:List D) | exc (c:Str) (fs:List (Str × Int))
inductive O where
 | lst (ds:List D) | set (ns:List Int) | dic (kvs:List (Key × D)) | dit (kvs:List (List Key × D))
noncomputable abbrev Hh:=List O
noncomputable abbrev En:=List (Option D)
structure Xc where
 cls:Str
 fs:List (Str × Int)
inductive R (β:Type) where
 | ok (b:β) (h:Hh)
 | err (x:Xc) (h:Hh)
 | bad
noncomputable def R.bind {β γ:Type} (r:R β) (f:β->Hh->R γ):R γ:=match r with
 | .ok b h=>f b h
 | .err x h=>.err x h
 | .bad=>.bad
inductive Fl where
 | nx (e:En) | bk (e:En) | ct (e:En) | rt (d:D)
noncomputable abbrev ME:=En->Hh->R D
noncomputable abbrev MT:=En->Hh->R Bool
noncomputable abbrev MA:=En->Hh->R (List D)
noncomputable abbrev MS:=En->Hh->R Fl
noncomputable def Fro (K:PySem.W.Frag) (H:Hp) (p:Addr) (vs:List V):Prop:=
 (∃o,H p=some (.frz o (.lst vs)))\/∃(o:Obj) (its:Array Value) (n:Nat),K.lookup p=some o/\o.cls=.type "list" /\ o.dict=none/\o.data=.seq its n/\its.size<=sizeLine/\Vals vs its.toList
theorem Fro.sq {K:PySem.W.Frag} {H:Hp} {p:Addr} {vs:List V} (h:Fro K H p vs):SqL K H p vs:=by
 rcases h with⟨o,h⟩ | h
 ·exact .inl (.inr ⟨o,h⟩)
 ·exact .inr h
noncomputable def Fr1 (H:Hp) (p:Addr) (vs:List V):Prop:=∃o,H p=some (.frz o (.lst vs))
theorem Fr1.fro {K:PySem.W.Frag} {H:Hp} {p:Addr} {vs:List V} (h:Fr1 H p vs):Fro K H p vs:=.inl h
theorem Fr1.sq {K:PySem.W.Frag} {H:Hp} {p:Addr} {vs:List V} (h:Fr1 H p vs):SqL K H p vs:=let ⟨o,h⟩:=h;.inl (.inr ⟨o,h⟩)
theorem Fr1.rd {H:Hp} {p:Addr} {vs:List V} (h:Fr1 H p vs):Rd H p (.lst vs):=.inr h
noncomputable def AtO (p:Addr) (o:Obj):HO:=.frz o (.ext fun h=>h.get? p=some o)
noncomputable def XFs (H:Hp) (dc:Option Addr) (fs:List (Str × Int)):Prop:=(dc=none/\fs=[])\/∃dx od,dc=some dx/\H dx=some (.frz od (.xd (fs.map fun x=>(x.1,V.int x.2))))
mutual
inductive aC (K:PySem.W.Frag) (g:Str->Option Addr) (α:List Addr) (H:Hp):D->V->Prop where
 | non:aC K g α H .non .non
 | bl (b):aC K g α H (.bl b) (.bl b)
 | int (i):aC K g α H (.int i) (.int i)
 | str (x):aC K g α H (.str x) (.str x)
 | ref {n p}:α[n]?=some p->aC K g α H (.ref n) (.ref p)
 | tup {ds p vs}:H p=some (.tup vs)->ao K g α H ds vs->aC K g α H (.tup ds) (.ref p)
 | frl {ds p vs}:Fr1 H p vs->ao K g α H ds vs->aC K g α H (.frl ds) (.ref p)
 | scr {ds p vs}:Fro K H p vs->ao K g α H ds vs->aC K g α H (.scr ds) (.ref p)
 | fn {x f}:g x=some f->aC K g α H (.fn x) (.ref f)
 | edic {p o}:H p=some (.frz o (.dK []))->aC K g α H .edic (.ref p)
 | exc {c C p o fs}:g c=some C->H p=some (AtO p o)->o.cls=.ref C->(∃vs,o.data=.fields vs)->XFs H o.dict fs->aC K g α H (.exc c fs) (.ref p)
inductive ao (K:PySem.W.Frag) (g:Str->Option Addr) (α:List Addr) (H:Hp):List D->List V->Prop where
 | nil:ao K g α H [] []
 | cons {d v ds vs}:aC K g α H d v->ao K g α H ds vs->ao K g α H (d::ds) (v::vs)
end
structure Ex0 (K:PySem.W.Frag) (α:List Addr) (H:Hp) (α':List Addr) (H':Hp):Prop where
 pre:α <+: α'
 tup:∀(p:Addr) (xs:List V),H p=some (.tup xs)->H' p=some (.tup xs)
 frz:∀(p:Addr) (o:Obj) (u:HO),H p=some (.frz o u)->H' p=some (.frz o u)
theorem Ex0.fro {K:PySem.W.Frag} {α α':List Addr} {H H':Hp} (e:Ex0 K α H α' H') (p:Addr) (xs:List V) (h:Fro K H p xs):Fro K H' p xs:=by
 rcases h with⟨o,h⟩ | h
 ·exact .inl ⟨o,e.frz _ _ _ h⟩
 ·exact .inr h
theorem Ex0.fr1 {K:PySem.W.Frag} {α α':List Addr} {H H':Hp} (e:Ex0 K α H α' H') (p:Addr) (xs:List V) (h:Fr1 H p xs):Fr1 H' p xs:=let ⟨o,h⟩:=h;⟨o,e.frz _ _ _ h⟩
structure Ext (K:PySem.W.Frag) (α:List Addr) (H:Hp) (α':List Addr) (H':Hp):Prop extends Ex0 K α H α' H' where
 keep:∀p o,H p=some o->p∉α->H' p=some o
 new:∀p,p∈α'->p∉α->H p=none
section
variable {K:PySem.W.Frag} {g:Str->Option Addr} {α α' α'':List Addr} {H H' H'':Hp}
theorem Ex0.refl:Ex0 K α H α H:=⟨List.prefix_refl _,fun _ _ h=>h,fun _ _ _ h=>h⟩
theorem Ex0.trans (a:Ex0 K α H α' H') (b:Ex0 K α' H' α'' H''):Ex0 K α H α'' H'':=⟨a.pre.trans b.pre,fun p xs h=>b.tup p xs (a.tup p xs h),fun p o u h=>b.frz p o u (a.frz p o u h)⟩
theorem Ext.refl:Ext K α H α H:=⟨.refl,fun _ _ h _=>h,fun _ h n=>absurd h n⟩
theorem Ext.trans (a:Ext K α H α' H') (b:Ext K α' H' α'' H''):Ext K α H α'' H'':=⟨a.toEx0.trans b.toEx0,fun p o h n=>b.keep p o (a.keep p o h n) (fun z=>by rw[a.new p z n] at h;cases h),fun p z n=>by
  by_cases q:p∈α'
  ·exact a.new p q n
  ·have:=b.new p z q
   cases e:H p with
   | none=>rfl
   | some o=>rw[a.keep p o e n] at this;cases this⟩
theorem Ex0.get (e:Ex0 K α H α' H') {n:Nat} {p:Addr} (h:α[n]?=some p):α'[n]?=some p:=by
 obtain⟨t,rfl⟩:=e.pre
 have hl:n<α.length:=by
  by_cases hl:n<α.length
  ·exact hl
  ·rw[List.getElem?_eq_none (by omega)] at h;cases h
 rw[List.getElem?_append_left hl];exact h
mutual
theorem aC.ex0 (e:Ex0 K α H α' H'):∀{d:D} {v:V},aC K g α H d v->aC K g α' H' d v
 | _,_,.non=>.non
 | _,_,.bl b=>.bl b
 | _,_,.int i=>.int i
 | _,_,.str x=>.str x
 | _,_,.ref h=>.ref (e.get h)
 | _,_,.tup h r=>.tup (e.tup _ _ h) (ao.ex0 e r)
 | _,_,.frl h r=>.frl (e.fr1 _ _ h) (ao.ex0 e r)
 | _,_,.scr h r=>.scr (e.fro _ _ h) (ao.ex0 e r)
 | _,_,.fn h=>.fn h
 | _,_,.edic h=>.edic (e.frz _ _ _ h)
 | _,_,.exc hg h hc hd hf=>.exc hg (e.frz _ _ _ h) hc hd (hf.elim .inl fun⟨dx,od,a,b⟩=>.inr ⟨dx,od,a,e.frz _ _ _ b⟩)
theorem ao.ex0 (e:Ex0 K α H α' H'):∀{ds:List D} {vs:List V},ao K g α H ds vs->ao K g α' H' ds vs
 | _,_,.nil=>.nil
 | _,_,.cons r t=>.cons (aC.ex0 e r) (ao.ex0 e t)
end
theorem aC.ext (e:Ext K α H α' H') {d:D} {v:V} (r:aC K g α H d v):aC K g α' H' d v:=r.ex0 e.toEx0
theorem ao.ext (e:Ext K α H α' H') {d:List D} {v:List V} (r:ao K g α H d v):ao K g α' H' d v:=r.ex0 e.toEx0
theorem ao.length:∀{ds:List D} {vs:List V},ao K g α H ds vs->ds.length=vs.length
 | _,_,.nil=>rfl
 | _,_,.cons _ t=>by simp[ao.length t]
theorem ao.append:∀{ds es:List D} {vs us:List V},ao K g α H ds vs->ao K g α H es us->ao K g α H (ds++es) (vs++us)
 | _,_,_,_,.nil,s=>s
 | _,_,_,_,.cons r t,s=>.cons r (ao.append t s)
theorem ao.get:∀{ds:List D} {vs:List V} {i:Nat} {d:D},ao K g α H ds vs->ds[i]?=some d->∃v,vs[i]?=some v/\aC K g α H d v
 | _,_,_,_,.nil,e=>by simp at e
 | _,_,0,_,.cons r _,e=>by simp at e;subst e;exact⟨_,rfl,r⟩
 | _,_,i+1,d,.cons _ t,e=>by
  obtain⟨u,h1,h2⟩:=ao.get (i:=i) (d:=d) t (by simpa using e)
  exact⟨u,by simpa using h1,h2⟩
theorem ao.set {d:D} {v:V} (r:aC K g α H d v):∀{ds:List D} {vs:List V} (i:Nat),ao K g α H ds vs->ao K g α H (ds.set i d) (vs.set i v)
 | _,_,_,.nil=>.nil
 | _,_,0,.cons _ t=>.cons r t
 | _,_,i+1,.cons q t=>.cons q (ao.set r i t)
theorem ao.take:∀{ds:List D} {vs:List V} (n:Nat),ao K g α H ds vs->ao K g α H (ds.take n) (vs.take n)
 | _,_,0,_=>.nil
 | _,_,_+1,.nil=>.nil
 | _,_,n+1,.cons r t=>.cons r (ao.take n t)
theorem ao.drop:∀{ds:List D} {vs:List V} (n:Nat),ao K g α H ds vs->ao K g α H (ds.drop n) (vs.drop n)
 | _,_,0,r=>r
 | _,_,_+1,.nil=>.nil
 | _,_,n+1,.cons _ t=>ao.drop n t
theorem ao.erase:∀{ds:List D} {vs:List V} (i:Nat),ao K g α H ds vs->ao K g α H (ds.eraseIdx i) (vs.eraseIdx i)
 | _,_,_,.nil=>.nil
 | _,_,0,.cons _ t=>t
 | _,_,i+1,.cons q t=>.cons q (ao.erase i t)
theorem ao.ints (ns:List Int):ao K g α H (ns.map D.int) (ns.map V.int):=by
 induction ns with
 | nil=>exact .nil
 | cons n r ih=>exact .cons (.int n) ih
theorem ao.uB:∀{ns:List Int} {vs:List V},ao K g α H (ns.map D.int) vs->vs=ns.map V.int
 | [],_,.nil=>rfl
 | n::r,_,.cons (.int _) t=>by rw[ao.uB t];rfl
theorem ao.flat {ds:List D} {vs:List V} (r:ao K g α H ds vs):∀k,ao K g α H (List.replicate k ds).flatten (List.replicate k vs).flatten
 | 0=>.nil
 | k+1=>by rw[List.replicate_succ,List.replicate_succ,List.flatten_cons,List.flatten_cons];exact r.append (ao.flat r k)
end
noncomputable def OAt (K:PySem.W.Frag) (g:Str->Option Addr) (α:List Addr) (H:Hp) (p:Addr):O->Prop
 | .lst ds=>∃vs,H p=some (.lst vs)/\ao K g α H ds vs
 | .set ns=>H p=some (.set (fun k=>ns.any (· == k)) ns.length)
 | .dic kvs=>∃kws,H p=some (.dK kws)/\Paired (fun(a:Key × D) (b:Key × V)=>a.1=b.1/\aC K g α H a.2 b.2) kvs kws
 | .dit kvs=>∃kws,H p=some (.dT kws)/\Paired (fun(a:List Key × D) (b:List Key × V)=>a.1=b.1/\aC K g α H a.2 b.2) kvs kws
structure aM (K:PySem.W.Frag) (g:Str->Option Addr) (α:List Addr) (H:Hp) (h:Hh):Prop where
 len:α.length=h.length
 inj:∀(n m:Nat) (p:Addr),α[n]?=some p->α[m]?=some p->n=m
 here:∀(n:Nat) (p:Addr) (o:O),α[n]?=some p->h[n]?=some o->OAt K g α H p o
section
variable {K:PySem.W.Frag} {g:Str->Option Addr} {α α':List Addr} {H H':Hp} {h:Hh}
theorem Paired.Cz {kvs:List (Key × D)} {kws:List (Key × V)} (e:Ex0 K α H α' H') (r:Paired (fun(a:Key × D) (b:Key × V)=>a.1=b.1/\aC K g α H a.2 b.2) kvs kws) :
  Paired (fun(a:Key × D) (b:Key × V)=>a.1=b.1/\aC K g α' H' a.2 b.2) kvs kws:=L2.Paired.yu r fun _ _ q=>⟨q.1,q.2.ex0 e⟩
theorem Paired.Cn {kvs:List (List Key × D)} {kws:List (List Key × V)} (e:Ex0 K α H α' H') (r:Paired (fun(a:List Key × D) (b:List Key × V)=>a.1=b.1/\aC K g α H a.2 b.2) kvs kws) :
  Paired (fun(a:List Key × D) (b:List Key × V)=>a.1=b.1/\aC K g α' H' a.2 b.2) kvs kws:=L2.Paired.yu r fun _ _ q=>⟨q.1,q.2.ex0 e⟩
theorem OAt.isS {p:Addr} {o:O} (h:OAt K g α H p o):∃u,H p=some u/\(∀ys,u≠.tup ys)/\∀w ys,u≠.frz w ys:=by
 cases o with
 | lst ds=>obtain⟨vs,e,_⟩:=h;exact⟨_,e,fun _ z=>(nomatch z),fun _ _ z=>nomatch z⟩
 | set n=>exact⟨_,h,fun _ z=>(nomatch z),fun _ _ z=>nomatch z⟩
 | dic kvs=>obtain⟨vs,e,_⟩:=h;exact⟨_,e,fun _ z=>(nomatch z),fun _ _ z=>nomatch z⟩
 | dit kvs=>obtain⟨vs,e,_⟩:=h;exact⟨_,e,fun _ z=>(nomatch z),fun _ _ z=>nomatch z⟩
theorem aM.mem (r:aM K g α H h) {p:Addr} (hp:p∈α):∃u,H p=some u/\(∀ys,u≠.tup ys)/\∀w ys,u≠.frz w ys:=by
 obtain⟨n,hn,e⟩:=List.getElem_of_mem hp
 have hn':n<h.length:=by rw[<- r.len];exact hn
 exact(r.here n p _ (by rw[List.getElem?_eq_getElem hn,e]) (List.getElem?_eq_getElem hn')).isS
theorem OAt.ex0 {p:Addr} {o:O} (e:Ex0 K α H α' H') (h:OAt K g α H p o) (k:∀u,H p=some u->H' p=some u):OAt K g α' H' p o:=by
 cases o with
 | lst ds=>obtain⟨vs,a,r⟩:=h;exact⟨vs,k _ a,r.ex0 e⟩
 | set n=>exact k _ h
 | dic kvs=>obtain⟨kws,a,r⟩:=h;exact⟨kws,k _ a,Paired.Cz e r⟩
 | dit kvs=>obtain⟨kws,a,r⟩:=h;exact⟨kws,k _ a,Paired.Cn e r⟩
noncomputable def xO (H:Hp) (p:Addr):Prop:=H p=none\/∃u,H p=some u/\(∀ys,u≠.tup ys)/\∀w ys,u≠.frz w ys
theorem Ex0.upd {p:Addr} {o:HO} (n:xO H p):Ex0 K α H α (upd H p o):=by
 have ne:∀q u,H q=some u->((∃ys,u=.tup ys)\/∃w ys,u=.frz w ys)->q≠p:=by
  rintro q u e z rfl
  rcases n with n | ⟨u',e',n1,n2⟩
  ·rw[e] at n;cases n
  ·rw[e] at e';cases e'
   rcases z with⟨ys,z⟩ | ⟨w,ys,z⟩
   ·exact n1 _ z
   ·exact n2 _ _ z
 refine⟨List.prefix_refl _,fun q xs h=>?_,fun q o u h=>?_⟩
 ·rw[ay (ne q _ h (.inl ⟨_,rfl⟩))];exact h
 ·rw[ay (ne q _ h (.inr ⟨_,_,rfl⟩))];exact h
theorem Ex0.more (e:Ex0 K α H α H') (l:List Addr):Ex0 K α H (α++l) H':=⟨List.prefix_append _ _,e.tup,e.frz⟩
theorem Ext.fresh {p:Addr} {o:HO} (n:H p=none):Ext K α H α (upd H p o):=⟨Ex0.upd (.inl n),fun q u h _=>by rw[ay (aI h n)];exact h,fun _ z m=>absurd z m⟩
theorem Ext.push {p:Addr} {o:HO} (n:H p=none):Ext K α H (α++[p]) (upd H p o):=⟨(Ex0.upd (.inl n)).more _,fun q u h _=>by rw[ay (aI h n)];exact h,fun q z m=>by
 rcases List.mem_append.mp z with z | z
 ·exact absurd z m
 ·rw[List.mem_singleton.mp z];exact n⟩
theorem aM.off {p:Addr} {o:HO} (r:aM K g α H h) (n:xO H p) (m:p∉α):aM K g α (upd H p o) h:=by
 refine⟨r.len,r.inj,fun k q u a b=>(r.here k q u a b).ex0 (Ex0.upd n) fun w e=>?_⟩
 rw[ay];exact e
 rintro rfl;exact m (List.mem_of_getElem? a)
theorem aM.free (r:aM K g α H h) {p:Addr} (n:H p=none):p∉α:=fun z=>by
 obtain⟨u,e,_⟩:=r.mem z
 rw[n] at e;cases e
theorem aM.grow {p:Addr} {o:HO} (r:aM K g α H h) (n:H p=none):aM K g α (upd H p o) h:=r.off (.inl n) (r.free n)
theorem aM.adopt {p:Addr} {u:O} (r:aM K g α H h) (n:p∉α) (a:OAt K g (α++[p]) H p u):aM K g (α++[p]) H (h++[u]):=by
 have old:∀{m:Nat} {q:Addr},(α++[p])[m]?=some q->(α[m]?=some q)\/(m=α.length/\q=p):=by
  intro m q h1
  by_cases hm:m<α.length
  ·rw[List.getElem?_append_left hm] at h1
   exact .inl h1
  ·have hl:m<(α++[p]).length:=by
    by_cases hl:m<(α++[p]).length
    ·exact hl
    ·rw[List.getElem?_eq_none (by omega)] at h1;cases h1
   have e:m=α.length:=by simp at hl;omega
   subst e
   rw[List.getElem?_append_right (Nat.le_refl _)] at h1
   simp at h1
   exact .inr ⟨rfl,h1.symm⟩
 refine⟨by simp[r.len],fun m k q h1 h2=>?_,fun m q w h1 h2=>?_⟩
 ·rcases old h1 with a1 | ⟨e1,e2⟩
  ·rcases old h2 with a2 | ⟨e3,e4⟩
   ·exact r.inj m k q a1 a2
   ·rw[e4] at a1;exact absurd (List.mem_of_getElem? a1) n
  ·rcases old h2 with a2 | ⟨e3,e4⟩
   ·rw[e2] at a2;exact absurd (List.mem_of_getElem? a2) n
   ·rw[e1,e3]
 ·rcases old h1 with a1 | ⟨e1,e2⟩
  ·have hm:m<α.length:=by
    by_cases hl:m<α.length
    ·exact hl
    ·rw[List.getElem?_eq_none (by omega)] at a1;cases a1
   rw[List.getElem?_append_left (by rw[<- r.len];exact hm)] at h2
   exact(r.here m q w a1 h2).ex0 (Ex0.refl.more _) fun _ z=>z
  ·subst e1 e2
   rw[r.len,List.getElem?_append_right (Nat.le_refl _)] at h2
   simp at h2
   subst h2
   exact a
theorem aM.push {p:Addr} {o:HO} {u:O} (r:aM K g α H h) (n:H p=none) (a:OAt K g (α++[p]) (upd H p o) p u):aM K g (α++[p]) (upd H p o) (h++[u]):=(r.grow n).adopt (r.free n) a
theorem Ext.write {p:Addr} {o:HO} {k:Nat} (r:aM K g α H h) (hk:α[k]?=some p):Ext K α H α (upd H p o):=
 ⟨Ex0.upd (.inr (r.mem (List.mem_of_getElem? hk))),fun q u h m=>by
  rw[ay];exact h
  rintro rfl;exact m (List.mem_of_getElem? hk),fun _ z m=>absurd z m⟩
theorem aM.write {p:Addr} {o:HO} {u':O} {k:Nat} (r:aM K g α H h) (hk:α[k]?=some p) (a:OAt K g α (upd H p o) p u'):aM K g α (upd H p o) (h.set k u'):=by
 have x:Ext K α H α (upd H p o):=Ext.write r hk
 refine⟨by simp[r.len],r.inj,fun m q w h1 h2=>?_⟩
 rw[List.getElem?_set] at h2
 by_cases hm:k=m
 ·subst hm
  rw[if_pos rfl] at h2
  split at h2
  ·cases h2;rw[h1] at hk;cases hk;exact a
  ·cases h2
 ·rw[if_neg hm] at h2
  refine(r.here m q w h1 h2).ex0 x.toEx0 fun z e=>?_
  rw[ay];exact e
  rintro rfl;exact hm (r.inj _ _ _ hk h1)
end
noncomputable abbrev GG:=Str->Option Addr
noncomputable abbrev EE:=List Addr->Hp->Xc->Prop
structure il (K:PySem.W.Frag) (g:GG) (α:List Addr) (H:Hp) (env:En) (σ:St):Prop where
 len:env.length=σ.length
 vars:∀(i:Nat) (d:D),env[i]?=some (some d)->∃v,σ[i]?=some (some v)/\aC K g α H d v
structure cH (K:PySem.W.Frag) (g:GG) (α:List Addr) (H:Hp) (env:En) (σ:St) (h:Hh):Prop where
 heap:aM K g α H h
 vs:il K g α H env σ
noncomputable def WQ (K:PySem.W.Frag) (g:GG) (ε:EE) (α:List Addr) (H:Hp) {β:Type} (r:R β) (k:β->Hh->Prop):Prop:=match r with
 | .ok b h=>k b h
 | .err x h=>∀α' H',Ext K α H α' H'->aM K g α' H' h->ε α' H' x
 | .bad=>False
section
variable {K:PySem.W.Frag} {g:GG} {ε:EE} {α α':List Addr} {H H':Hp} {β γ:Type}
theorem WQ.bind {r:R β} {f:β->Hh->R γ} {k:γ->Hh->Prop} (w:WQ K g ε α H (r.bind f) k):WQ K g ε α H r fun b h=>WQ K g ε α H (f b h) k:=by
 cases r<;>exact w
theorem WQ.ext {r:R β} {k:β->Hh->Prop} (e:Ext K α H α' H') (w:WQ K g ε α H r k):WQ K g ε α' H' r k:=by
 cases r with
 | ok b h=>exact w
 | err x h=>exact fun a b c d=>w a b (e.trans c) d
 | bad=>exact w
theorem WQ.mono {r:R β} {k k':β->Hh->Prop} (w:WQ K g ε α H r k) (m:∀b h,r=.ok b h->k b h->k' b h):WQ K g ε α H r k':=by
 cases r with
 | ok b h=>exact m b h rfl w
 | err x h=>exact w
 | bad=>exact w
theorem il.ext {env:En} {σ:St} (v:il K g α H env σ) (e:Ext K α H α' H'):il K g α' H' env σ:=
 ⟨v.len,fun i d h=>let ⟨x,a,b⟩:=v.vars i d h;⟨x,a,b.ext e⟩⟩
theorem cH.ext {env:En} {σ:St} {h h':Hh} (v:cH K g α H env σ h) (e:Ext K α H α' H') (r:aM K g α' H' h'):cH K g α' H' env σ h':=⟨r,v.vs.ext e⟩
theorem il.set {env:En} {σ:St} {i:Nat} {d:D} {x:V} (v:il K g α H env σ) (r:aC K g α H d x):il K g α H (env.set i (some d)) (σ.set i (some x)):=by
 refine⟨by simp[v.len],fun j e h=>?_⟩
 rw[List.getElem?_set] at h ⊢
 by_cases hj:i=j
 ·subst hj
  rw[if_pos rfl] at h ⊢
  have hl:=v.len
  split at h
  ·rw[if_pos (by omega)]
   cases h
   exact⟨x,rfl,r⟩
  ·cases h
 ·rw[if_neg hj] at h ⊢
  exact v.vars j e h
end
noncomputable def aB (K:PySem.W.Frag) (g:GG) (α:List Addr) (H:Hp) (Q:VK):D->Hh->Prop:=fun d h=>∀v H' α',Ext K α H α' H'->aM K g α' H' h->aC K g α' H' d v->Q v H'
noncomputable def iZ (K:PySem.W.Frag) (g:GG) (α:List Addr) (H:Hp) (Q:Bool->Hp->Prop):Bool->Hh->Prop:=fun b h=>∀H' α',Ext K α H α' H'->aM K g α' H' h->Q b H'
noncomputable def Dn (K:PySem.W.Frag) (g:GG) (α:List Addr) (H:Hp) (Q:List V->Hp->Prop):List D->Hh->Prop:=fun ds h=>∀vs H' α',Ext K α H α' H'->aM K g α' H' h->ao K g α' H' ds vs->Q vs H'
noncomputable def cy (K:PySem.W.Frag) (g:GG) (α:List Addr) (H:Hp) (E:Ends):Fl->Hh->Prop:=fun fl h=>∀H' α',Ext K α H α' H'->aM K g α' H' h->match fl with
 | .nx e=>∀σ,il K g α' H' e σ->E.nx σ H'
 | .bk e=>∀σ,il K g α' H' e σ->E.bk σ H'
 | .ct e=>∀σ,il K g α' H' e σ->E.ct σ H'
 | .rt d=>∀v,aC K g α' H' d v->E.rt v H'
noncomputable def tM (K:PySem.W.Frag) (g:GG) (ε:EE) (m:ME):TE:=fun σ H Q=>∃α env h,cH K g α H env σ h/\WQ K g ε α H (m env h) (aB K g α H Q)
noncomputable def tMT (K:PySem.W.Frag) (g:GG) (ε:EE) (m:MT):TT:=fun σ H Q=>∃α env h,cH K g α H env σ h/\WQ K g ε α H (m env h) (iZ K g α H Q)
noncomputable def tMA (K:PySem.W.Frag) (g:GG) (ε:EE) (m:MA):TA:=fun σ H Q=>∃α env h,cH K g α H env σ h/\WQ K g ε α H (m env h) (Dn K g α H Q)
noncomputable def tMS (K:PySem.W.Frag) (g:GG) (ε:EE) (m:MS):TS:=fun E σ H=>∃α env h,cH K g α H env σ h/\WQ K g ε α H (m env h) (cy K g α H E)
section
variable {K:PySem.W.Frag} {g:GG} {ε:EE} {α α':List Addr} {H H':Hp} {env:En} {σ:St} {h:Hh}
theorem aB.ext {Q:VK} {d:D} (e:Ext K α H α' H') (p:aB K g α H Q d h):aB K g α' H' Q d h:=fun v H2 α2 e2 r rd=>p v H2 α2 (e.trans e2) r rd
theorem iZ.ext {Q:Bool->Hp->Prop} {d:Bool} (e:Ext K α H α' H') (p:iZ K g α H Q d h):iZ K g α' H' Q d h:=fun H2 α2 e2 r=>p H2 α2 (e.trans e2) r
theorem cy.ext {E:Ends} {d:Fl} (e:Ext K α H α' H') (p:cy K g α H E d h):cy K g α' H' E d h:=fun H2 α2 e2 r=>p H2 α2 (e.trans e2) r
theorem WQ.post {Q:VK} {r:R D} (e:Ext K α H α' H') (w:WQ K g ε α H r (aB K g α H Q)):WQ K g ε α' H' r (aB K g α' H' Q):=(w.ext e).mono fun _ _ _ p=>p.ext e
theorem WQ.Cs {Q:Bool->Hp->Prop} {r:R Bool} (e:Ext K α H α' H') (w:WQ K g ε α H r (iZ K g α H Q)):WQ K g ε α' H' r (iZ K g α' H' Q):=(w.ext e).mono fun _ _ _ p=>p.ext e
theorem WQ.sL {E:Ends} {r:R Fl} (e:Ext K α H α' H') (w:WQ K g ε α H r (cy K g α H E)):WQ K g ε α' H' r (cy K g α' H' E):=(w.ext e).mono fun _ _ _ p=>p.ext e
theorem tM.use {m:ME} {Q:VK} {k:D->Hh->Prop} (s:cH K g α H env σ h) (w:WQ K g ε α H (m env h) k)
  (q:∀d h' v H' α',Ext K α H α' H'->cH K g α' H' env σ h'->aC K g α' H' d v->k d h'->Q v H'):tM K g ε m σ H Q:=
 ⟨α,env,h,s,w.mono fun d h' _ kk v H' α' e r rd=>q d h' v H' α' e (s.ext e r) rd kk⟩
theorem tMT.use {m:MT} {Q:Bool->Hp->Prop} {k:Bool->Hh->Prop} (s:cH K g α H env σ h) (w:WQ K g ε α H (m env h) k)
  (q:∀d h' H' α',Ext K α H α' H'->cH K g α' H' env σ h'->k d h'->Q d H'):tMT K g ε m σ H Q:=
 ⟨α,env,h,s,w.mono fun d h' _ kk H' α' e r=>q d h' H' α' e (s.ext e r) kk⟩
theorem tMA.use {m:MA} {Q:List V->Hp->Prop} {k:List D->Hh->Prop} (s:cH K g α H env σ h) (w:WQ K g ε α H (m env h) k)
  (q:∀d h' v H' α',Ext K α H α' H'->cH K g α' H' env σ h'->ao K g α' H' d v->k d h'->Q v H'):tMA K g ε m σ H Q:=
 ⟨α,env,h,s,w.mono fun d h' _ kk v H' α' e r rd=>q d h' v H' α' e (s.ext e r) rd kk⟩
theorem aB.now {Q:VK} {d:D} {v:V} (p:aB K g α H Q d h) (r:aM K g α H h) (rd:aC K g α H d v):Q v H:=p v H α Ext.refl r rd
end
theorem PE.imp {X:Cx} {e:Expr} {t t':TE} (h:PE X e t) (i:∀σ H Q,t' σ H Q->t σ H Q):PE X e t':=fun pins s σ H Q I w=>h pins s σ H Q I (i σ H Q w)
theorem PT.imp {X:Cx} {e:Expr} {t t':TT} (h:PT X e t) (i:∀σ H Q,t' σ H Q->t σ H Q):PT X e t':=fun pins s σ H Q I w=>h pins s σ H Q I (i σ H Q w)
theorem PW.imp {X:Cx} {e:Expr} {t t':TT} (h:PW X e t) (i:∀σ H Q,t' σ H Q->t σ H Q):PW X e t':=fun wh pins s σ H Q I w=>h wh pins s σ H Q I (i σ H Q w)
theorem PA.imp {X:Cx} {e:List Expr} {t t':TA} (h:PA X e t) (i:∀σ H Q,t' σ H Q->t σ H Q):PA X e t':=fun p pins s σ H Q I w=>h p pins s σ H Q I (i σ H Q w)
theorem PS.imp {X:Cx} {e:Stmt} {t t':TS} (h:PS X e t) (i:∀σ H Q,t' σ H Q->t σ H Q):PS X e t':=fun pins s σ H Q I w=>h pins s σ H Q I (i Q σ H w)
theorem PSs.imp {X:Cx} {e:List Stmt} {t t':TS} (h:PSs X e t) (i:∀σ H Q,t' σ H Q->t σ H Q):PSs X e t':=fun pins s σ H Q I w=>h pins s σ H Q I (i Q σ H w)
noncomputable def ag (i:Nat):ME:=fun env h=>match env[i]? with
 | some (some d)=>.ok d h
 | _=>.bad
noncomputable def cC (d:D):ME:=fun _ h=>.ok d h
noncomputable def aq (f:D->D->Hh->R D) (a b:ME):ME:=fun env h=>(a env h).bind fun x h1=>(b env h1).bind fun y h2=>f x y h2
noncomputable def cUn (f:D->Hh->R D) (a:ME):ME:=fun env h=>(a env h).bind fun x h1=>f x h1
noncomputable def ai:MA:=fun _ h=>.ok [] h
noncomputable def aa (a:ME) (r:MA):MA:=fun env h=>(a env h).bind fun x h1=>(r env h1).bind fun xs h2=>.ok (x::xs) h2
noncomputable def ah (f:List D->Hh->R D) (a:MA):ME:=fun env h=>(a env h).bind fun xs h1=>f xs h1
noncomputable def aK (f:D->Hh->R Bool) (a:ME):MT:=fun env h=>(a env h).bind fun x h1=>f x h1
noncomputable def dk (a:MT):MT:=fun env h=>(a env h).bind fun b h1=>.ok (!b) h1
noncomputable def ou (a b:MT):MT:=fun env h=>(a env h).bind fun x h1=>if x=true then b env h1 else .ok false h1
noncomputable def g8 (a b:MT):MT:=fun env h=>(a env h).bind fun x h1=>if x=true then .ok true h1 else b env h1
noncomputable def cIf (c:MT) (a b:ME):ME:=fun env h=>(c env h).bind fun x h1=>if x=true then a env h1 else b env h1
noncomputable def asB:D->Hh->R Bool
 | .bl b,h=>.ok b h
 | _,_=>.bad
noncomputable def rT (a b:ME):ME:=fun env h=>(a env h).bind fun x h1=>(asB x h1).bind fun k h2=>if k=true then b env h2 else .ok (.bl false) h2
noncomputable def vT (a:ME):ME:=fun env h=>(a env h).bind fun x h1=>(asB x h1).bind fun k h2=>.ok (.bl (!k)) h2
noncomputable def fe (f f':D->D->Hh->R D) (a b c:ME):ME:=fun env h=>(a env h).bind fun x h1=>(b env h1).bind fun y h2=>(f x y h2).bind fun z h3=>(asB z h3).bind fun k h4=>
 if k=true then (c env h4).bind fun w h5=>f' y w h5 else .ok (.bl false) h4
noncomputable def cG (K:PySem.W.Frag) (g:GG) (ε:EE) (f:D->D->Hh->R D) (r:R2):Prop:=
 ∀(α:List Addr) (H:Hp) (h:Hh) (a b:D) (x y:V) (Q:VK),aM K g α H h->aC K g α H a x->aC K g α H b y->WQ K g ε α H (f a b h) (aB K g α H Q)->r x y H Q
noncomputable def B4 (K:PySem.W.Frag) (g:GG) (ε:EE) (f:D->Hh->R Bool) (r:V->Hp->(Bool->Hp->Prop)->Prop):Prop:=
 ∀(α:List Addr) (H:Hp) (h:Hh) (a:D) (x:V) (Q:Bool->Hp->Prop),aM K g α H h->aC K g α H a x->WQ K g ε α H (f a h) (iZ K g α H Q)->r x H Q
noncomputable def g6 (K:PySem.W.Frag) (g:GG) (ε:EE) (f:List D->Hh->R D) (r:List V->Hp->VK->Prop):Prop:=
 ∀(α:List Addr) (H:Hp) (h:Hh) (a:List D) (x:List V) (Q:VK),aM K g α H h->ao K g α H a x->WQ K g ε α H (f a h) (aB K g α H Q)->r x H Q
noncomputable def mX (K:PySem.W.Frag) (g:GG) (ε:EE) (f:D->List D->Hh->R D) (r:V->List V->Hp->VK->Prop):Prop:=
 ∀(α:List Addr) (H:Hp) (h:Hh) (o:D) (a:List D) (y:V) (x:List V) (Q:VK),aM K g α H h->aC K g α H o y->ao K g α H a x->WQ K g ε α H (f o a h) (aB K g α H Q)->r y x H Q
section
variable {X:Cx} {g:GG} {ε:EE} {a b c:Expr} {ma mb mc:ME} {pos:Pos}
theorem af (i:Nat) {x:Str} {pos:Pos} (hN:X.N[i]?=some x:=by rfl) (hv:Vis X.env.scope x:=by first | exact Or.inl rfl | exact Or.inr (Or.inl rfl) | exact Or.inr (Or.inr rfl)) (hd:(x == ("__debug__" : Str))=false:=by decide)
  (hcd:(x == ("__classdict__" : Str))=false:=by decide):PE X (.Name x pos) (tM X.K g ε (ag i)):=by
 refine PE.imp (wK hN hv hd hcd) fun σ H Q ⟨α,env,h,s,w⟩=>?_
 unfold ag at w
 cases e:env[i]? with
 | none=>rw[e] at w;exact w.elim
 | some d=>
  cases d with
  | none=>rw[e] at w;exact w.elim
  | some d=>
   rw[e] at w
   obtain⟨v,hv,rd⟩:=s.vs.vars i d e
   exact⟨v,hv,aB.now w s.heap rd⟩
theorem pB {v:V} {d:D} {Q:VK} {σ:St} {H:Hp} (rd:∀α,aC X.K g α H d v) (t:tM X.K g ε (cC d) σ H Q):tC v σ H Q:=by
 obtain⟨α,env,h,s,w⟩:=t
 exact aB.now w s.heap (rd α)
theorem ax {i j pos}:PE X (.Constant (.int i) j pos) (tM X.K g ε (cC (.int i))):=PE.imp AQ fun _ _ _ t=>pB (fun _=>.int i) t
theorem jc {i j pos}:PE X (.Constant (.bool i) j pos) (tM X.K g ε (cC (.bl i))):=PE.imp Dx fun _ _ _ t=>pB (fun _=>.bl i) t
theorem aw {i j pos}:PE X (.Constant (.str i) j pos) (tM X.K g ε (cC (.str i))):=PE.imp AU fun _ _ _ t=>pB (fun _=>.str i) t
theorem kG {j pos}:PE X (.Constant .none j pos) (tM X.K g ε (cC .non)):=PE.imp AS fun _ _ _ t=>pB (fun _=>.non) t
theorem ki {x:Str} {i:Int} {t:Tok} {pos:Pos} (hg:Gl X x) (hm:X.mg x=some (.int i t)) (hd:(x == ("__debug__" : Str))=false:=by decide):PE X (.Name x pos) (tM X.K g ε (cC (.int i))):=
 PE.imp (yV (v:=.int i) hg hm ⟨t,rfl⟩ hd) fun _ _ _ t=>pB (fun _=>.int i) t
theorem m7 {f:D->D->Hh->R D} {r:R2} {K:PySem.W.Frag} (im:cG K g ε f r) {σ:St} {H:Hp} {Q:VK} (t:tM K g ε (aq f ma mb) σ H Q):tOp r (tM K g ε ma) (tM K g ε mb) σ H Q:=by
 obtain⟨α,env,h,s,w⟩:=t
 refine tM.use s w.bind fun d1 h1 v1 H1 α1 e1 s1 r1 w1=>?_
 refine tM.use s1 (w1.ext e1).bind fun d2 h2 v2 H2 α2 e2 s2 r2 w2=>?_
 exact im α2 H2 h2 d1 d2 v1 v2 Q s2.heap (r1.ext e2) r2 ((w2.ext e2).mono fun _ _ _ p=>p.ext (e1.trans e2))
theorem aE {op:Operator} {r:R2} {f:D->D->Hh->R D} (ho:OpR X (binaryOp op) r) (im:cG X.K g ε f r) (ha:PE X a (tM X.K g ε ma)) (hb:PE X b (tM X.K g ε mb)):PE X (.BinOp a op b pos) (tM X.K g ε (aq f ma mb)):=
 PE.imp (C6 ho ha hb) fun _ _ _ t=>m7 im t
theorem vf {op:CmpOp} {r:R2} {f:D->D->Hh->R D} (ho:OpR X (compareOp op) r) (im:cG X.K g ε f r) (ha:PE X a (tM X.K g ε ma)) (hb:PE X b (tM X.K g ε mb)) (hm:behindInMarks op b=false):PE X (.Compare a [op] [b] pos) (tM X.K g ε (aq f ma mb)):=
 PE.imp (yX ho ha hb hm) fun _ _ _ t=>m7 im t
theorem ow {K:PySem.W.Frag} {m:ME} {t:TE} (ht:∀σ H Q,tM K g ε m σ H Q->t σ H Q) {σ:St} {H:Hp} {Q:Bool->Hp->Prop} (w:tMT K g ε (aK asB m) σ H Q):uA t σ H Q:=by
 obtain⟨α,env,h,s,w⟩:=w
 refine ht _ _ _ (tM.use s w.bind fun d1 h1 v1 H1 α1 e1 s1 r1 w1=>?_)
 unfold asB at w1
 cases r1 with
 | bl k=>exact⟨k,rfl,w1 H1 α1 e1 s1.heap⟩
 | _=>exact w1.elim
theorem bE {op:CmpOp} {r:R2} {f:D->D->Hh->R D} (ho:OpR X (compareOp op) r) (im:cG X.K g ε f r) (ha:PE X a (tM X.K g ε ma)) (hb:PE X b (tM X.K g ε mb)) (hm:behindInMarks op b=false):PT X (.Compare a [op] [b] pos) (tMT X.K g ε (aK asB (aq f ma mb))):=
 PT.imp (xG ho ha hb hm) fun _ _ _ t=>ow (fun _ _ _ u=>m7 im u) t
theorem my {f f':D->D->Hh->R D} {r r':R2} {K:PySem.W.Frag} (im:cG K g ε f r) (im':cG K g ε f' r') {σ:St} {H:Hp} {Q:VK} (t:tM K g ε (fe f f' ma mb mc) σ H Q):rh r r' (tM K g ε ma) (tM K g ε mb) (tM K g ε mc) σ H Q:=by
 obtain⟨α,env,h,s,w⟩:=t
 refine tM.use s w.bind fun d1 h1 v1 H1 α1 e1 s1 r1 w1=>?_
 refine tM.use s1 (w1.ext e1).bind fun d2 h2 v2 H2 α2 e2 s2 r2 w2=>?_
 refine im α2 H2 h2 d1 d2 v1 v2 _ s2.heap (r1.ext e2) r2 ((w2.ext e2).bind.mono fun z h3 _ w3 v3 H3 α3 e3 hr3 r3=>?_)
 have w4:=w3.bind
 unfold asB at w4
 cases r3 with
 | bl k=>
  refine⟨k,rfl,?_⟩
  have s3:=s2.ext e3 hr3
  cases k with
  | true=>
   have w5:WQ K g ε α2 H2 ((mc env h3).bind fun w h5=>f' d2 w h5) _:=w4
   rw[if_pos rfl]
   refine tM.use s3 (w5.ext e3).bind fun d4 h4 v4 H4 α4 e4 s4 r4 w6=>?_
   exact im' α4 H4 h4 d2 d4 v2 v4 Q s4.heap (r2.ext (e3.trans e4)) r4 ((w6.ext e4).mono fun _ _ _ p=>p.ext (e1.trans (e2.trans (e3.trans e4))))
  | false=>
   rw[if_neg Bool.false_ne_true]
   have w5:aB K g α H Q (.bl false) h3:=w4
   exact w5 _ H3 α3 (e1.trans (e2.trans e3)) s3.heap (.bl false)
 | _=>exact w4.elim
theorem xc {op op':CmpOp} {r r':R2} {f f':D->D->Hh->R D} (ho:OpR X (compareOp op) r) (ho':OpR X (compareOp op') r') (im:cG X.K g ε f r) (im':cG X.K g ε f' r') (ha:PE X a (tM X.K g ε ma)) (hb:PE X b (tM X.K g ε mb)) (hc:PE X c (tM X.K g ε mc))
  (hm:lastMarks [op,op'] [b,c]=false:=by with_unfolding_all rfl):PE X (.Compare a [op,op'] [b,c] pos) (tM X.K g ε (fe f f' ma mb mc)):=PE.imp (wc ho ho' ha hb hc hm) fun _ _ _ t=>my im im' t
theorem oy {op op':CmpOp} {r r':R2} {f f':D->D->Hh->R D} (ho:OpR X (compareOp op) r) (ho':OpR X (compareOp op') r') (im:cG X.K g ε f r) (im':cG X.K g ε f' r') (ha:PE X a (tM X.K g ε ma)) (hb:PE X b (tM X.K g ε mb)) (hc:PE X c (tM X.K g ε mc))
  (hm:lastMarks [op,op'] [b,c]=false:=by with_unfolding_all rfl):PT X (.Compare a [op,op'] [b,c] pos) (tMT X.K g ε (aK asB (fe f f' ma mb mc))):=PT.imp (vN ho ho' ha hb hc hm) fun _ _ _ t=>ow (fun _ _ _ u=>my im im' u) t
theorem eZ {r:R2} {f:D->D->Hh->R D} (hr:IxR X r) (im:cG X.K g ε f r) (ha:PE X a (tM X.K g ε ma)) (hb:PE X b (tM X.K g ε mb)) (hs:rZ b):PE X (.Subscript a b pos) (tM X.K g ε (aq f ma mb)):=
 PE.imp (CV hr ha hb hs) fun _ _ _ t=>m7 im t
theorem dM {f:D->Hh->R Bool} (im:B4 X.K g ε f (fun x H Q=>∃k,yD X.K x H k/\Q k H)) (ha:PE X a (tM X.K g ε ma)) (he:∀whole,isTrue a X.env whole=(do let v ← whole;standAt a.pos;holding [v] (truthy v))):PT X a (tMT X.K g ε (aK f ma)):=
 PT.imp (uW ha he) fun σ H Q ⟨α,env,h,s,w⟩=>tM.use s w.bind fun d1 h1 v1 H1 α1 e1 s1 r1 w1=>im α1 H1 h1 d1 v1 Q s1.heap r1 (w1.Cs e1)
theorem eQ {mt:MT} (ha:PT X a (tMT X.K g ε mt)):PT X (.UnaryOp .Not a pos) (tMT X.K g ε (dk mt)):=
 PT.imp (BG ha) fun σ H Q ⟨α,env,h,s,w⟩=>tMT.use s w.bind fun d1 h1 H1 α1 e1 s1 w1=>w1 H1 α1 e1 s1.heap
end
section
variable {X:Cx} {g:GG} {ε:EE} {a b c e:Expr} {es:List Expr} {rest:List Expr} {ma mb mc me:ME} {mt mu:MT} {pos:Pos}
theorem nE (ha:PT X a (tMT X.K g ε mt)):PW X (.BoolOp .And [a] pos) (tMT X.K g ε mt):=pw_and1 ha
theorem iF (ha:PT X a (tMT X.K g ε mt)):PW X (.BoolOp .Or [a] pos) (tMT X.K g ε mt):=pw_or1 ha
theorem qT (ha:PT X a (tMT X.K g ε mt)) (hb:PW X (.BoolOp .And (b::rest) pos) (tMT X.K g ε mu)):PW X (.BoolOp .And (a::b::rest) pos) (tMT X.K g ε (ou mt mu)):=
 PW.imp (pw_and ha hb) fun σ H Q ⟨α,env,h,s,w⟩=>tMT.use s w.bind fun d1 h1 H1 α1 e1 s1 w1=>by
  cases d1 with
  | true=>rw[if_pos rfl] at w1 ⊢;exact tMT.use s1 (w1.ext e1) fun d2 h2 H2 α2 e2 s2 w2=>w2 H2 α2 (e1.trans e2) s2.heap
  | false=>rw[if_neg Bool.false_ne_true] at w1 ⊢;exact w1 H1 α1 e1 s1.heap
theorem iX (ha:PT X a (tMT X.K g ε mt)) (hb:PW X (.BoolOp .Or (b::rest) pos) (tMT X.K g ε mu)):PW X (.BoolOp .Or (a::b::rest) pos) (tMT X.K g ε (g8 mt mu)):=
 PW.imp (pw_or ha hb) fun σ H Q ⟨α,env,h,s,w⟩=>tMT.use s w.bind fun d1 h1 H1 α1 e1 s1 w1=>by
  cases d1 with
  | true=>rw[if_pos rfl] at w1 ⊢;exact w1 H1 α1 e1 s1.heap
  | false=>rw[if_neg Bool.false_ne_true] at w1 ⊢;exact tMT.use s1 (w1.ext e1) fun d2 h2 H2 α2 e2 s2 w2=>w2 H2 α2 (e1.trans e2) s2.heap
theorem oH (hc:PT X c (tMT X.K g ε mt)) (ha:PE X a (tM X.K g ε ma)) (hb:PE X b (tM X.K g ε mb)):PE X (.IfExp c a b pos) (tM X.K g ε (cIf mt ma mb)):=
 PE.imp (uE hc ha hb) fun σ H Q ⟨α,env,h,s,w⟩=>tMT.use s w.bind fun d1 h1 H1 α1 e1 s1 w1=>by
  cases d1 with
  | true=>rw[if_pos rfl] at w1 ⊢;exact tM.use s1 (w1.ext e1) fun d2 h2 v2 H2 α2 e2 s2 r2 w2=>w2 v2 H2 α2 (e1.trans e2) s2.heap r2
  | false=>rw[if_neg Bool.false_ne_true] at w1 ⊢;exact tM.use s1 (w1.ext e1) fun d2 h2 v2 H2 α2 e2 s2 r2 w2=>w2 v2 H2 α2 (e1.trans e2) s2.heap r2
theorem wy {op} (h:PE X a (tM X.K g ε ma)):PE X (.BoolOp op [a] pos) (tM X.K g ε ma):=zU h
theorem wb {K:PySem.W.Frag} {α:List Addr} {H H1:Hp} {α1:List Addr} {d:D} {v:V} {h:Hh} {β:Type} {f:Bool->Hh->R β} {k:β->Hh->Prop} (r:aC K g α1 H1 d v) (w:WQ K g ε α H ((asB d h).bind f) k):∃b,v=.bl b/\d=.bl b/\WQ K g ε α H (f b h) k:=by
 cases r with
 | bl b=>exact⟨b,rfl,rfl,w⟩
 | _=>exact w.elim
theorem uS (ha:PE X a (tM X.K g ε ma)) (hb:PE X (.BoolOp .And (b::rest) pos) (tM X.K g ε mb)):PE X (.BoolOp .And (a::b::rest) pos) (tM X.K g ε (rT ma mb)):=
 PE.imp (Br ha hb) fun σ H Q ⟨α,env,h,s,w⟩=>tM.use s w.bind fun d1 h1 v1 H1 α1 e1 s1 r1 w1=>by
  obtain⟨k,rfl,rfl,w2⟩:=wb r1 w1
  refine⟨k,rfl,?_⟩
  cases k with
  | true=>rw[if_pos rfl] at w2 ⊢;exact tM.use s1 (w2.ext e1) fun d2 h2 v2 H2 α2 e2 s2 r2 w2=>w2 v2 H2 α2 (e1.trans e2) s2.heap r2
  | false=>rw[if_neg Bool.false_ne_true] at w2 ⊢;exact w2 _ H1 α1 e1 s1.heap (.bl false)
theorem z_ (ha:PE X a (tM X.K g ε ma)):PE X (.UnaryOp .Not a pos) (tM X.K g ε (vT ma)):=
 PE.imp (Ad ha) fun σ H Q ⟨α,env,h,s,w⟩=>tM.use s w.bind fun d1 h1 v1 H1 α1 e1 s1 r1 w1=>by
  obtain⟨k,rfl,rfl,w2⟩:=wb r1 w1
  exact⟨k,rfl,w2 _ H1 α1 e1 s1.heap (.bl _)⟩
variable {mr:MA}
theorem ak:PA X [] (tMA X.K g ε ai):=PA.imp gw fun σ H Q ⟨α,env,h,s,w⟩=>w [] H α Ext.refl s.heap .nil
theorem ae (ha:PE X e (tM X.K g ε ma)) (hr:PA X es (tMA X.K g ε mr)) (hs:starEach (e::es) X.env=(false,eval e X.env)::starEach es X.env:=by rfl):PA X (e::es) (tMA X.K g ε (aa ma mr)):=
 PA.imp (cU ha hr hs) fun σ H Q ⟨α,env,h,s,w⟩=>tM.use s w.bind fun d1 h1 v1 H1 α1 e1 s1 r1 w1=>tMA.use s1 (w1.ext e1).bind fun d2 h2 v2 H2 α2 e2 s2 r2 w2=>w2 _ H2 α2 (e1.trans e2) s2.heap (.cons (r1.ext e2) r2)
noncomputable def eV:List D->Hh->R D:=fun ds h=>if ds.length<=1000000 then .ok (.tup ds) h else .bad
theorem aB.tup {K:PySem.W.Frag} {α:List Addr} {H:Hp} {h:Hh} {ds:List D} {vs:List V} {Q:VK} {p:Addr} (w:aB K g α H Q (.tup ds) h) (r:aM K g α H h) (rd:ao K g α H ds vs) (n:H p=none):Q (.ref p) (upd H p (.tup vs)):=
 w _ _ α (Ext.fresh n) (r.grow n) (.tup aJ (rd.ext (Ext.fresh n)))
theorem WQ.bI {K:PySem.W.Frag} {α:List Addr} {H:Hp} {β:Type} {c:Prop} [Decidable c] {r:R β} {k:β->Hh->Prop} (w:WQ K g ε α H (if c then r else .bad) k):c/\WQ K g ε α H r k:=by
 by_cases h:c
 ·rw[if_pos h] at w;exact⟨h,w⟩
 ·rw[if_neg h] at w;exact w.elim
theorem dQ {n:Nat} (h:n<=1000000):n<=sizeLine:=by rw[sizeLine_eq];omega
theorem fE {x1} (ha:PA X es (tMA X.K g ε mr)):PE X (.Tuple es x1 pos) (tM X.K g ε (ah eV mr)):=
 PE.imp (AV ha) fun σ H Q ⟨α,env,h,s,w⟩=>tMA.use s w.bind fun d1 h1 v1 H1 α1 e1 s1 r1 w1=>by
  obtain⟨hl,w2⟩:=WQ.bI w1
  exact⟨dQ (by rw[<- r1.length];exact hl),fun p hp=>aB.tup (aB.ext e1 w2) s1.heap r1 hp⟩
theorem vP {f:List D->Hh->R D} {r:List V->Hp->VK->Prop} {K:PySem.W.Frag} (im:g6 K g ε f r) {σ:St} {H:Hp} {Q:VK} (t:tM K g ε (ah f mr) σ H Q):tCB r (tMA K g ε mr) σ H Q:=by
 obtain⟨α,env,h,s,w⟩:=t
 exact tMA.use s w.bind fun d1 h1 v1 H1 α1 e1 s1 r1 w1=>im α1 H1 h1 d1 v1 Q s1.heap r1 (w1.post e1)
theorem aX {id:String} {x:Str} {p:Pos} {f:List D->Hh->R D} {r:List V->Hp->VK->Prop} (hc:aR X (.builtin id) r) (im:g6 X.K g ε f r) (hg:Gl X x) (hm:X.mg x=none) (hv:bootBuiltins x=some (.builtin id)) (ha:PA X (e::es) (tMA X.K g ε mr)) (hn:x≠"__name__" := by decide) (hdb:(x == ("__debug__" : Str))=false:=by decide)
  (he:starEach (e::es) X.env=(false,eval e X.env)::starEach es X.env:=by rfl) (hpl:(backTo pos (starEach es X.env)).any (·.1)=false:=by rfl):PE X (.Call (.Name x p) (e::es) [] pos) (tM X.K g ε (ah f mr)):=
 PE.imp (gG hc hg hm hv ha hn hdb he hpl) fun _ _ _ t=>vP im t
theorem cg {id:String} {x:Str} {p:Pos} {f:List D->Hh->R D} {r:List V->Hp->VK->Prop} (hc:aR X (.type id) r) (im:g6 X.K g ε f r) (hg:Gl X x) (hm:X.mg x=none) (hv:bootBuiltins x=some (.type id)) (ha:PA X (e::es) (tMA X.K g ε mr)) (hn:x≠"__name__" := by decide) (hdb:(x == ("__debug__" : Str))=false:=by decide)
  (he:starEach (e::es) X.env=(false,eval e X.env)::starEach es X.env:=by rfl) (hpl:(backTo pos (starEach es X.env)).any (·.1)=false:=by rfl):PE X (.Call (.Name x p) (e::es) [] pos) (tM X.K g ε (ah f mr)):=
 PE.imp (iN hc hg hm hv ha hn hdb he hpl) fun _ _ _ t=>vP im t
end
noncomputable def b8:MS:=fun env h=>.ok (.nx env) h
noncomputable def aF (a b:MS):MS:=fun env h=>(a env h).bind fun fl h1=>match fl with
 | .nx e=>b e h1
 | fl=>.ok fl h1
noncomputable def dm (a:ME):MS:=fun env h=>(a env h).bind fun _ h1=>.ok (.nx env) h1
noncomputable def bD (a:ME):MS:=fun env h=>(a env h).bind fun d h1=>.ok (.rt d) h1
noncomputable def dC (c:MT) (a b:MS):MS:=fun env h=>(c env h).bind fun x h1=>if x=true then a env h1 else b env h1
noncomputable def bB (i:Nat) (a:ME):MS:=fun env h=>(a env h).bind fun d h1=>.ok (.nx (env.set i (some d))) h1
noncomputable def uu (i j:Nat) (a:MA):MS:=fun env h=>(a env h).bind fun ds h1=>match ds with
 | [x,y]=>.ok (.nx ((env.set i (some x)).set j (some y))) h1
 | _=>.bad
noncomputable def nj (f:D->D->D->Hh->R Unit) (o i v:ME):MS:=fun env h=>(v env h).bind fun x h1=>(o env h1).bind fun y h2=>(i env h2).bind fun z h3=>(f y z x h3).bind fun _ h4=>.ok (.nx env) h4
section
variable {X:Cx} {g:GG} {ε:EE} {e:Expr} {me:ME} {ms mu:MS} {mt:MT} {st:Stmt} {rest:List Stmt} {pos:Pos}
theorem cH.nx {K:PySem.W.Frag} {α α':List Addr} {H H':Hp} {env:En} {σ:St} {h':Hh} {E:Ends} (s:cH K g α' H' env σ h') (e:Ext K α H α' H') (w:cy K g α H E (.nx env) h'):E.nx σ H':=w H' α' e s.heap σ s.vs
theorem bW:PSs X [] (tMS X.K g ε b8):=PSs.imp xW fun E σ H ⟨α,env,h,s,w⟩=>s.nx Ext.refl w
theorem tMS.use {K:PySem.W.Frag} {α:List Addr} {H:Hp} {env:En} {σ:St} {h:Hh} {m:MS} {E:Ends} {k:Fl->Hh->Prop} (s:cH K g α H env σ h) (w:WQ K g ε α H (m env h) k)
  (q:∀fl h' H' α',Ext K α H α' H'->aM K g α' H' h'->k fl h'->match fl with
   | .nx e=>∀σ',cH K g α' H' e σ' h'->E.nx σ' H'
   | .bk e=>∀σ',cH K g α' H' e σ' h'->E.bk σ' H'
   | .ct e=>∀σ',cH K g α' H' e σ' h'->E.ct σ' H'
   | .rt d=>∀v,aC K g α' H' d v->E.rt v H'):tMS K g ε m E σ H:=
 ⟨α,env,h,s,w.mono fun fl h' _ kk H' α' e r=>by
  have:=q fl h' H' α' e r kk
  cases fl with
  | nx e=>exact fun σ' v=>this σ' ⟨r,v⟩
  | bk e=>exact fun σ' v=>this σ' ⟨r,v⟩
  | ct e=>exact fun σ' v=>this σ' ⟨r,v⟩
  | rt d=>exact this⟩
theorem aA (h1:PS X st (tMS X.K g ε ms)) (h2:PSs X rest (tMS X.K g ε mu)):PSs X (st::rest) (tMS X.K g ε (aF ms mu)):=
 PSs.imp (uL h1 h2) fun E σ H ⟨α,env,h,s,w⟩=>tMS.use s w.bind fun fl h' H' α' e r kk=>by
  cases fl with
  | nx env'=>exact fun σ' s'=>⟨α',env',h',s',WQ.sL e kk⟩
  | bk env'=>exact fun σ' s'=>(show cy X.K g α H E (.bk env') h' from kk) H' α' e r σ' s'.vs
  | ct env'=>exact fun σ' s'=>(show cy X.K g α H E (.ct env') h' from kk) H' α' e r σ' s'.vs
  | rt d=>exact fun v rv=>(show cy X.K g α H E (.rt d) h' from kk) H' α' e r v rv
theorem aG (h1:PS X st (tMS X.K g ε ms)):PSs X [st] (tMS X.K g ε ms):=rJ h1
theorem ic (he:PE X e (tM X.K g ε me)) (hs:swapsWith e none pos.line X.env=pure false:=by rfl):PS X (.Expr e pos) (tMS X.K g ε (dm me)):=
 PS.imp (yL he hs) fun E σ H ⟨α,env,h,s,w⟩=>tM.use s w.bind fun d1 h1 v1 H1 α1 e1 s1 r1 w1=>s1.nx e1 w1
theorem bu (he:PE X e (tM X.K g ε me)):PS X (.Return (some e) pos) (tMS X.K g ε (bD me)):=
 PS.imp (vV he) fun E σ H ⟨α,env,h,s,w⟩=>tM.use s w.bind fun d1 h1 v1 H1 α1 e1 s1 r1 w1=>(show cy X.K g α H E (.rt d1) h1 from w1) H1 α1 e1 s1.heap v1 r1
theorem g7 {c:Expr} {A B:List Stmt} (hc:PT X c (tMT X.K g ε mt)) (ha:PSs X A (tMS X.K g ε ms)) (hb:PSs X B (tMS X.K g ε mu)):PS X (.If c A B pos) (tMS X.K g ε (dC mt ms mu)):=
 PS.imp (C5 hc ha hb) fun E σ H ⟨α,env,h,s,w⟩=>tMT.use s w.bind fun d1 h1 H1 α1 e1 s1 w1=>by
  cases d1 with
  | true=>rw[if_pos rfl] at w1 ⊢;exact⟨α1,env,h1,s1,WQ.sL e1 w1⟩
  | false=>rw[if_neg Bool.false_ne_true] at w1 ⊢;exact⟨α1,env,h1,s1,WQ.sL e1 w1⟩
theorem cX {i:Nat} {x:Str} {pos':Pos} (hN:X.N.Nodup) (hi:X.N[i]?=some x) (hx:Loc X.env.scope x) (he:PE X e (tM X.K g ε me)) (hs:swapsWith e (some (.Name x pos')) pos.line X.env=pure false:=by rfl) (hf:X.fn x=true\/X.env.scope.names.lookup x=some .local:=by first | exact .inl rfl | exact .inr rfl | assumption) :
  PS X (.Assign [.Name x pos'] e pos) (tMS X.K g ε (bB i me)):=
 PS.imp (BL hN hi hx he hs hf) fun E σ H ⟨α,env,h,s,w⟩=>tM.use s w.bind fun d1 h1 v1 H1 α1 e1 s1 r1 w1=>(show cy X.K g α H E (.nx (env.set i (some d1))) h1 from w1) H1 α1 e1 s1.heap _ (s1.vs.set r1)
theorem Dk {i j:Nat} {x y:Str} {a b:Expr} {ma:MA} {px py pt:Pos} {kt k2 pt2} (hc:X.calm=true) (hN:X.N.Nodup) (hi:X.N[i]?=some x) (hj:X.N[j]?=some y) (hij:i≠j)
  (hx:X.env.scope.names.lookup x=some .local) (hy:X.env.scope.names.lookup y=some .local) (ha:PA X [a,b] (tMA X.K g ε ma))
  (hw:swappedStores [.Tuple [.Name x px,.Name y py] kt pt] (.Tuple [a,b] k2 pt2) X.env=pure (some [x,y]))
  (hs:swapsWithSole [.Tuple [.Name x px,.Name y py] kt pt] (.Tuple [a,b] k2 pt2) pos.line X.env=pure false:=by rfl) :
  PS X (.Assign [.Tuple [.Name x px,.Name y py] kt pt] (.Tuple [a,b] k2 pt2) pos) (tMS X.K g ε (uu i j ma)):=
 PS.imp (AX hc hN hi hj hij hx hy ha hw hs) fun E σ H ⟨α,env,h,s,w⟩=>tMA.use s w.bind fun d1 h1 v1 H1 α1 e1 s1 r1 w1=>by
  cases r1 with
  | nil=>exact w1.elim
  | cons ra rr=>
   cases rr with
   | nil=>exact w1.elim
   | cons rb rr=>
    cases rr with
    | nil=>exact⟨_,_,rfl,(show cy X.K g α H E (.nx _) h1 from w1) H1 α1 e1 s1.heap _ ((s1.vs.set ra).set rb)⟩
    | cons _ _=>exact w1.elim
noncomputable def Dd (K:PySem.W.Frag) (g:GG) (ε:EE) (f:D->D->D->Hh->R Unit) (t:v9):Prop:=
 ∀(α:List Addr) (H:Hp) (h:Hh) (o i v:D) (x y z:V) (Q:Hp->Prop),aM K g α H h->aC K g α H o x->aC K g α H i y->aC K g α H v z->WQ K g ε α H (f o i v h) (fun _ h'=>∀H' α',Ext K α H α' H'->aM K g α' H' h'->Q H')->t x y z H Q
theorem r8 {o i:Expr} {mo mi:ME} {t:v9} {f:D->D->D->Hh->R Unit} {p:Pos} (he:PE X e (tM X.K g ε me)) (ho:PE X o (tM X.K g ε mo)) (hi:PE X i (tM X.K g ε mi)) (hp:BD X t) (im:Dd X.K g ε f t)
  (ha:∀v,assign (.Subscript o i p) X.env v=(do
   let ov ← holding [v] (eval o X.env)
   let iv ← holding [v,ov] (eval i X.env)
   standAt p
   holding [v,ov,iv] (setItem ov iv v)
   release [v,ov,iv] []):=by intro _;rfl)
  (hs:swapsWithSole [.Subscript o i p] e pos.line X.env=pure false:=by rfl) (hw:swappedStores [.Subscript o i p] e X.env=pure none:=by rfl)
  (h1:(assignEach [.Subscript o i p] X.env).map (·.2)=[assign (.Subscript o i p) X.env]:=by rfl):PS X (.Assign [.Subscript o i p] e pos) (tMS X.K g ε (nj f mo mi me)):=
 PS.imp (AL he (Ae ho hi hp ha) hs hw h1) fun E σ H ⟨α,env,h,s,w⟩=>tM.use s w.bind fun d1 h1 v1 H1 α1 e1 s1 r1 w1=>tM.use s1 (w1.ext e1).bind fun d2 h2 v2 H2 α2 e2 s2 r2 w2=>tM.use s2 (w2.ext e2).bind fun d3 h3 v3 H3 α3 e3 s3 r3 w3=>by
  refine im α3 H3 h3 d2 d3 d1 v2 v3 v1 _ s3.heap (r2.ext e3) r3 ((r1.ext e2).ext e3) ((w3.ext e3).bind.mono fun _ h4 _ w4 H4 α4 e4 hr4=>?_)
  exact(show cy X.K g α H E (.nx env) h4 from w4) H4 α4 (e1.trans (e2.trans (e3.trans e4))) hr4 _ (s3.vs.ext e4)
end
theorem rR {X:Cx} {pins:List (Addr × Obj)} {σ:St} {H:Hp} {s:Shared} {p:Addr} {u:HO} (I:Inv X pins σ H s) (h:H p=some u) (mu:Mut (some u)):∃o,Inv X pins σ (upd H p (.frz o u)) s:=by
 obtain⟨o,ho⟩:∃o,s.heap.get? p=some o:=by
  have hl:=(I.hok p _ h).lt
  cases e:s.heap.get? p with
  | some o=>exact⟨o,rfl⟩
  | none=> 
   have q:=I.hok p _ h
   cases u with
   | lst xs=>obtain⟨_,_,_,_,e'⟩:=q;rw[e] at e';cases e'
   | dK kvs=>obtain⟨_,_,_,_,o,_,_,e',_⟩:=q;rw[e] at e';cases e'
   | dT kvs=>obtain⟨_,_,_,_,o,_,_,e',_⟩:=q;rw[e] at e';cases e'
   | set S n=>obtain⟨o,_,_,_,e',_⟩:=q;rw[e] at e';cases e'
   | ins C dx fs=>obtain⟨_,_,_,e',_⟩:=q;rw[e] at e';cases e'
   | ext φ=>obtain⟨_,⟨_,e'⟩,_⟩:=q;rw[e] at e';cases e'
   | _=>exact absurd mu (fun z=>z)
 have nt:∀b xs,H b=some (.tup xs)->b≠p:=fun b xs e z=>by subst z;rw[h] at e;cases e;exact mu
 have nf:∀b o u,H b=some (.frz o u)->b≠p:=fun b o u e z=>by subst z;rw[h] at e;cases e;exact mu
 have nb:∀b ps,H b=some (.tbl ps)->b≠p:=fun b ps e z=>by subst z;rw[h] at e;cases e;exact mu
 have no:∀b y,H b=some (.own y)->b≠p:=fun b ps e z=>by subst z;rw[h] at e;cases e;exact mu
 have hok:HOk X.prog X.w (upd H p (.frz o u)) s.heap:=fun b v q=>by
  by_cases hb:b=p
  ·subst hb
   rw[aJ] at q;cases q
   exact⟨ho,(I.hok b _ h).g_ (fun _ _ _ z=>z) (fun c z=>by rw[ay (no c _ z)];exact z) fun c xs z=>by rw[ay (nt c xs z)];exact z⟩
  ·rw[ay hb] at q
   exact(I.hok b v q).g_ (fun _ _ _ z=>z) (fun c z=>by rw[ay (no c _ z)];exact z) fun c xs z=>by rw[ay (nt c xs z)];exact z
 refine⟨o,?_⟩
 have np:∀b,H b=none->b≠p:=fun b e z=>by subst z;rw[h] at e;cases e
 have:=I.un (H':=upd H p (.frz o u)) (h':=s.heap) (t':=s.toks) ⟨fun b o q _ _ _=>q,fun b o q _ _ _=>⟨o.slots,q⟩,fun b v q n _=>(by rw[ay (np b n)];exact n),fun b o q _=>⟨o,q⟩,fun b xs q=>(by rw[ay (nt b xs q)];exact q),fun b o v q=>(by rw[ay (nf b o v q)];exact q),fun b ps q=>⟨#[],by rw[ay (nb b ps q),q];simp⟩⟩ hok
 exact this
noncomputable def gU (Q:VK):VK:=fun v H=>Q v H\/∃p u,v=.ref p/\H p=some u/\Mut (some u)/\∀o,Q v (upd H p (.frz o u))
theorem EP.frz {X:Cx} {pins:List (Addr × Obj)} {σ:St} {Q:VK} {u:Value} {s':Shared} (h:EP X pins σ (gU Q) u s'):EP X pins σ Q u s':=by
 obtain⟨v,H',I,r,q | ⟨p,u,rfl,e,m,q⟩⟩:=h
 ·exact⟨v,H',I,r,q⟩
 ·obtain⟨o,I'⟩:=rR I e m
  exact⟨_,_,I',r,q o⟩
theorem PE.frz {X:Cx} {e:Expr} {t:TE} (h:PE X e t):PE X e fun σ H Q=>t σ H (gU Q):=fun pins s σ H Q I w=>thn (h pins s σ H _ I w) fun _ _ z=>EP.frz z
theorem OpR.frz {X:Cx} {f:Value->Value->Sem Value} {r:R2} (h:OpR X f r):OpR X f fun x y H Q=>r x y H (gU Q):=fun pins s σ H x y v u Q I rx ry q=>thn (h pins s σ H x y v u _ I rx ry q) fun _ _ z=>EP.frz z
noncomputable def Dv (D:Ends):Ends:={ D with nx:=fun σ H=>D.nx σ H\/∃p u,H p=some u/\Mut (some u)/\∀o,D.nx σ (upd H p (.frz o u)) }
theorem PS.frz {X:Cx} {st:Stmt} {t:TS} (h:PS X st t):PS X st fun E σ H=>t (Dv E) σ H:=fun pins s σ H E I w=>thn (h pins s σ H _ I w) fun fl s' z=>by
 cases fl with
 | next=>
  obtain⟨σ',H',I,q | ⟨p,u,e,m,q⟩⟩:=z
  ·exact⟨σ',H',I,q⟩
  ·obtain⟨o,I'⟩:=rR I e m
   exact⟨σ',_,I',q o⟩
 | brk=>exact z
 | cont=>exact z
 | ret u=>exact z
theorem yn {E:Ends} {σ:St} {i:Nat} {v:V} {H1:Hp} (z:gU (fun v H1=>E.nx (σ.set i (some v)) H1) v H1):(Dv E).nx (σ.set i (some v)) H1:=by
 rcases z with z | ⟨p,u,_,e,m,q⟩
 ·exact .inl z
 ·exact .inr ⟨p,u,e,m,q⟩
noncomputable abbrev NL:=List D->Hh->R D
noncomputable def dO:NL:=fun ys h2=>.ok (.ref h2.length) (h2++[O.lst ys])
noncomputable def au:NL:=fun ys h2=>.ok (.frl ys) h2
class gZ (nl:NL):Prop where
 at':∀{K:PySem.W.Frag} {g:GG} {ε:EE} {α1 α2:List Addr} {H1 H2:Hp} {h:Hh} {as:List D} {ys:List V} {acc:Addr} {Q:D->Hh->Prop} {R:VK},WQ K g ε α1 H1 (nl as h) Q->(∀d h',Q d h'->aB K g α1 H1 R d h')->Ext K α1 H1 α2 H2->aM K g α2 H2 h->ao K g α2 H2 as ys->H2 acc=some (.lst ys)->acc∉α2->H1 acc=none->gU R (.ref acc) H2
instance:gZ dO where
 at':=fun{K g ε α1 α2 H1 H2 h as ys acc Q R} w hq x2 hr2 ra ha hna hacc=>by
  have x3:Ext K α1 H1 (α2++[acc]) H2:=⟨x2.toEx0.trans (Ex0.refl.more _),x2.keep,fun p z n=>by
   rcases List.mem_append.mp z with z | z
   ·exact x2.new p z n
   ·rw[List.mem_singleton.mp z];exact hacc⟩
  refine .inl (hq _ _ w _ H2 (α2++[acc]) x3 (hr2.adopt hna ⟨ys,ha,ra.ex0 (Ex0.refl.more _)⟩) (.ref ?_))
  rw[<- hr2.len,List.getElem?_append_right (Nat.le_refl _)];simp
instance:gZ au where
 at':=fun{K g ε α1 α2 H1 H2 h as ys acc Q R} w hq x2 hr2 ra ha hna hacc=>by
  refine .inr ⟨acc,_,rfl,ha,trivial,fun o=>?_⟩
  have soft:xO H2 acc:=.inr ⟨_,ha,fun _ z=>(nomatch z),fun _ _ z=>nomatch z⟩
  have x6:Ex0 K α2 H2 α2 (upd H2 acc (.frz o (.lst ys))):=Ex0.upd soft
  refine hq _ _ w _ _ α2 ⟨x2.toEx0.trans x6,fun p u z n=>?_,x2.new⟩ (hr2.off soft hna) (.frl ⟨o,aJ⟩ (ra.ex0 x6))
  rw[ay (aI z hacc)];exact x2.keep p u z n
theorem NL.post {nl:NL} [gZ nl] {K:PySem.W.Frag} {g:GG} {ε:EE} {α:List Addr} {H:Hp} {h:Hh} {ds:List D} {vs:List V} {Q:VK} {p:Addr} (w:WQ K g ε α H (nl ds h) (aB K g α H Q)) (r:aM K g α H h) (rd:ao K g α H ds vs) (n:H p=none):gU Q (.ref p) (upd H p (.lst vs)):=
 gZ.at' w (fun _ _ z=>z) (Ext.fresh n) (r.grow n) (rd.ext (Ext.fresh n)) aJ (r.free n) n
noncomputable def bg (nl:NL):List D->Hh->R D:=fun ds h=>if ds.length<=1000000 then nl ds h else .bad
theorem bS {X:Cx} {g:GG} {ε:EE} {es:List Expr} {mr:MA} {pos:Pos} {nl:NL} [gZ nl] (ha:PA X es (tMA X.K g ε mr)):PE X (.List es pos) (tM X.K g ε (ah (bg nl) mr)):=
 PE.imp (PE.frz (A1 ha)) fun σ H Q ⟨α,env,h,s,w⟩=>tMA.use s w.bind fun d1 h1 v1 H1 α1 e1 s1 r1 w1=>by
  obtain⟨hl,w2⟩:=WQ.bI w1
  exact⟨dQ (by rw[<- r1.length];exact hl),fun p hp=>NL.post (w2.post e1) s1.heap r1 hp⟩
noncomputable def av (h:Hh) (n:Nat):Option (List D):=match h[n]? with
 | some (.lst ds)=>some ds
 | _=>none
inductive Src where
 | snap (ds:List D)
 | live (n:Nat)
 | liveE (n:Nat)
noncomputable abbrev MI:=En->Hh->R Src
noncomputable abbrev Rdr:=Hh->Nat->Option (Option D)
noncomputable def Src.rdr:Src->Rdr
 | .snap ds=>fun _ i=>some ds[i]?
 | .live n=>fun h i=>(av h n).map fun ds=>ds[i]?
 | .liveE n=>fun h i=>(av h n).map fun ds=>(ds[i]?).map fun d=>D.tup [.int i,d]
noncomputable def Src.fuel (s:Src) (h:Hh):Nat:=match s with
 | .snap ds=>ds.length
 | .live n=>((av h n).getD []).length
 | .liveE n=>((av h n).getD []).length
noncomputable def Reads (K:PySem.W.Frag) (g:GG) (J:It) (rd:Rdr) (α₀:List Addr) (aS:Hp):Prop:=
 ∀(α:List Addr) (H:Hp) (h:Hh),Ext K α₀ aS α H->aM K g α H h->∀i,match rd h i with
  | none=>True
  | some none=>J.stop i H
  | some (some d)=>J.go i H/\∀x H',J.yld i H x H'->∃α',Ext K α H α' H'/\aM K g α' H' h/\aC K g α' H' d x
noncomputable def tMI (K:PySem.W.Frag) (g:GG) (ε:EE) (m:MI):TI:=fun σ H T=>∃α env h,cH K g α H env σ h/\WQ K g ε α H (m env h) fun sr h'=>∀J H' α',Ext K α H α' H'->aM K g α' H' h'->Reads K g J sr.rdr α' H'->T J H'
theorem PI.imp {X:Cx} {tg e:Expr} {t t':TI} (h:PI X tg e t) (i:∀σ H Q,t' σ H Q->t σ H Q):PI X tg e t':=fun pins s σ H Q I w=>h pins s σ H Q I (i σ H Q w)
noncomputable def fk (rd:Rdr) (tg:D->En->Hh->R En) (body:MS):Nat->Nat->En->Hh->R Fl
 | k,i,env,h=>match rd h i with
  | none=>.bad
  | some none=>.ok (.nx env) h
  | some (some d)=>match k with
   | 0=>.bad
   | k+1=>(tg d env h).bind fun e1 h1=>(body e1 h1).bind fun fl h2=>match fl with
    | .nx e=>fk rd tg body k (i+1) e h2
    | .ct e=>fk rd tg body k (i+1) e h2
    | .bk e=>.ok (.nx e) h2
    | .rt d=>.ok (.rt d) h2
noncomputable def cS (tg:D->En->Hh->R En) (body:MS):List D->En->Hh->R Fl
 | [],env,h=>.ok (.nx env) h
 | d::ds,env,h=>(tg d env h).bind fun e1 h1=>(body e1 h1).bind fun fl h2=>match fl with
  | .nx e=>cS tg body ds e h2
  | .ct e=>cS tg body ds e h2
  | .bk e=>.ok (.nx e) h2
  | .rt d=>.ok (.rt d) h2
theorem xA (tg:D->En->Hh->R En) (body:MS) (all:List D):∀(ds:List D) (i:Nat) (env:En) (h:Hh),all.drop i=ds->fk (Src.snap all).rdr tg body ds.length i env h=cS tg body ds env h:=by
 intro ds
 induction ds with
 | nil=>
  intro i env h e
  have:all[i]?=none:=by
   have:=congrArg List.length e
   simp at this
   exact List.getElem?_eq_none (by omega)
  unfold fk cS Src.rdr
  simp[this]
 | cons d ds ih=>
  intro i env h e
  have h0:all[i]?=some d:=by
   have:=congrArg (fun l=>l[0]?) e
   simpa using this
  have h1:all.drop (i+1)=ds:=by
   have:=congrArg List.tail e
   simpa using this
  unfold fk cS
  have:(Src.snap all).rdr h i=some (some d):=by unfold Src.rdr;simp[h0]
  rw[this]
  show((tg d env h).bind _)=_
  congr 1
  funext e1 h2
  congr 1
  funext fl h3
  cases fl with
  | nx e=>exact ih (i+1) e h3 h1
  | ct e=>exact ih (i+1) e h3 h1
  | bk e=>rfl
  | rt d=>rfl
noncomputable def dN (mi:MI) (tg:D->En->Hh->R En) (body:MS):MS:=fun env h=>(mi env h).bind fun sr h1=>match sr with
 | .snap ds=>cS tg body ds env h1
 | .live n=>fk (Src.live n).rdr tg body ((av h1 n).getD []).length 0 env h1
 | .liveE n=>fk (Src.liveE n).rdr tg body ((av h1 n).getD []).length 0 env h1
theorem xw {mi:MI} {tg:D->En->Hh->R En} {body:MS} {env:En} {h:Hh}:dN mi tg body env h=(mi env h).bind fun sr h1=>fk sr.rdr tg body (sr.fuel h1) 0 env h1:=by
 unfold dN
 congr 1
 funext sr h1
 cases sr with
 | snap ds=>exact(xA tg body ds ds 0 env h1 rfl).symm
 | live n=>rfl
 | liveE n=>rfl
noncomputable def gN (i:Nat):D->En->Hh->R En:=fun d env h=>.ok (env.set i (some d)) h
noncomputable def gT2 (i j:Nat):D->En->Hh->R En:=fun d env h=>match d with
 | .tup [x,y]=>.ok ((env.set i (some x)).set j (some y)) h
 | _=>.bad
noncomputable def AJ (K:PySem.W.Frag) (g:GG) (ε:EE) (tg:D->En->Hh->R En) (t:TG):Prop:=
 ∀(α:List Addr) (H:Hp) (h:Hh) (env:En) (σ:St) (d:D) (x:V) (Q:St->Hp->Prop),cH K g α H env σ h->aC K g α H d x →
  WQ K g ε α H (tg d env h) (fun e1 h1=>∀σ' H' α',Ext K α H α' H'->cH K g α' H' e1 σ' h1->Q σ' H')->t x σ H Q
theorem fP {K:PySem.W.Frag} {g:GG} {ε:EE} {i:Nat}:AJ K g ε (gN i) (h9 i):=fun α H h env σ d x Q s r w=>w _ H α Ext.refl ⟨s.heap,s.vs.set r⟩
theorem Am {K:PySem.W.Frag} {g:GG} {ε:EE} {i j:Nat}:AJ K g ε (gT2 i j) (CY K 2 (vF (h9 i) (vF (h9 j) DA))):=fun α H h env σ d x Q s r w=>by
 unfold gT2 at w
 cases r with
 | tup hq rs=>
  cases rs with
  | nil=>exact w.elim
  | cons ra rr=>
   cases rr with
   | nil=>exact w.elim
   | cons rb rr=>
    cases rr with
    | nil=>exact⟨_,_,rfl,SqT.of hq,rfl,_,_,rfl,_,_,rfl,rfl,w _ H α Ext.refl ⟨s.heap,(s.vs.set ra).set rb⟩⟩
    | cons _ _=>exact w.elim
 | _=>exact w.elim
section
variable {X:Cx} {g:GG} {ε:EE}
theorem kO {tg iter:Expr} {body:List Stmt} {mi:MI} {t:TG} {fg:D->En->Hh->R En} {mb:MS} {pos:Pos} (hp:PassesOwn (model X.prog X.w) X.A X.env X.xe) (hc:X.calm=true) (hi:PI X tg iter (tMI X.K g ε mi)) (hg:PG X tg t) (ig:AJ X.K g ε fg t) (hb:PSs X body (tMS X.K g ε mb))
  (hs:∀x,foldedSetIterable iter X.env x=pure x:=by intro _;rfl):PS X (.For tg iter body [] pos) (tMS X.K g ε (dN mi fg mb)):=by
 refine PS.imp (Bf hp hc hi hg hb hs) fun E σ H ⟨α,env,h,s,w⟩=>?_
 rw[xw] at w
 refine⟨α,env,h,s,w.bind.mono fun sr h1 _ w1 J H1 α1 e1 hr1 rd=>?_⟩
 refine⟨fun i m σ H=>∃α env h,Ext X.K α1 H1 α H/\cH X.K g α H env σ h/\WQ X.K g ε α H (fk sr.rdr fg mb m i env h) (cy X.K g α H E),⟨sr.fuel h1,α1,env,h1,Ext.refl,s.ext e1 hr1,w1.sL e1⟩,?_⟩
 rintro i m σ2 H2 ⟨α2,env2,h2,x2,s2,w2⟩
 have q:=rd α2 H2 h2 x2 s2.heap i
 unfold fk at w2
 cases e:sr.rdr h2 i with
 | none=>rw[e] at w2;exact w2.elim
 | some od=>
  rw[e] at w2 q
  cases od with
  | none=>exact .inl ⟨q,s2.nx Ext.refl w2⟩
  | some d=>
   cases m with
   | zero=>exact w2.elim
   | succ m=>
    have w3:=WQ.bind (show WQ X.K g ε α2 H2 ((fg d env2 h2).bind _) _ from w2)
    refine .inr ⟨q.1,fun σ' H'=>∃α env h,Ext X.K α1 H1 α H'/\cH X.K g α H' env σ' h/\WQ X.K g ε α H' (fk sr.rdr fg mb m (i+1) env h) (cy X.K g α H' E),fun σ' H' z=>⟨m,Nat.lt_succ_self _,z⟩,fun x H3 y=>?_⟩
    obtain⟨α3,x3,hr3,rx⟩:=q.2 x H3 y
    refine ig α3 H3 h2 env2 σ2 d x _ (s2.ext x3 hr3) rx ((w3.ext x3).mono fun e4 h4 _ w4 σ4 H4 α4 x4 s4=>?_)
    refine tMS.use s4 ((w4.ext x3).ext x4).bind fun fl h5 H5 α5 x5 hr5 w5=>?_
    have tr:Ext X.K α2 H2 α5 H5:=x3.trans (x4.trans x5)
    cases fl with
    | nx e=>exact fun σ' s'=>⟨α5,e,h5,x2.trans tr,s',((w5.ext x5)).mono fun _ _ _ p=>p.ext tr⟩
    | ct e=>exact fun σ' s'=>⟨α5,e,h5,x2.trans tr,s',((w5.ext x5)).mono fun _ _ _ p=>p.ext tr⟩
    | bk e=>exact fun σ' s'=>(show cy X.K g α2 H2 E (.nx e) h5 from w5) H5 α5 tr hr5 σ' s'.vs
    | rt d=>exact fun v rv=>(show cy X.K g α2 H2 E (.rt d) h5 from w5) H5 α5 tr hr5 v rv
theorem aM.lst {K:PySem.W.Frag} {α:List Addr} {H:Hp} {h:Hh} {n:Nat} {ds:List D} (r:aM K g α H h) (e:av h n=some ds) {p:Addr} (hp:α[n]?=some p):∃vs,H p=some (.lst vs)/\ao K g α H ds vs:=by
 unfold av at e
 cases o:h[n]? with
 | none=>rw[o] at e;cases e
 | some o'=>
  rw[o] at e
  have q:=r.here n p o' hp o
  cases o' with
  | lst ds'=>cases e;obtain⟨vs,a,b⟩:=q;exact⟨vs,a,b⟩
  | set n=>cases e
  | dic k=>cases e
  | dit k=>cases e
noncomputable def qg:D->Hh->R Src
 | .tup ds,h=>.ok (.snap ds) h
 | .frl ds,h=>.ok (.snap ds) h
 | .scr ds,h=>.ok (.snap ds) h
 | .ref n,h=>match av h n with
  | some _=>.ok (.live n) h
  | none=>.bad
 | _,_=>.bad
noncomputable def cB (a:ME):MI:=fun env h=>(a env h).bind qg
noncomputable def DZ (K:PySem.W.Frag) (tl:TE):TI:=fun σ H R=>tl σ H fun x H1=>∃a,x=.ref a/\(((∃xs,SqL K H1 a xs)/\R (Itl K a) H1)\/((∃xs,SqT K H1 a xs)/\R (Itt K a) H1))
theorem Ai {tg l:Expr} {tl:TE} (hl:PE X l tl):PI X tg l (DZ X.K tl):=by
 intro pins s σ H R I h
 refine thn (hl pins s σ H _ I h) fun v s1 ⟨x,H1,I1,r1,q1⟩=>?_
 obtain⟨a,e,q⟩:=q1
 subst e
 cases r1
 rcases q with⟨⟨xs,hq⟩,q⟩ | ⟨⟨xs,hq⟩,q⟩
 ·obtain⟨its,rv,p,hz⟩:=I1.list hq
  refine wpAny_pyIter_list p.isList ?_
  refine⟨s1.heap.objs.size,[s1.heap.objs.size],_,_,H1,rfl,I1.kept (t':=s1.toks) fun b o e=>Heap.get?_push_of_some _ e,uh a _,⟨_,Heap.get?_push_size _ rfl,rfl,rfl⟩,fun b hb=>?_,q⟩
  have e:b=s1.heap.objs.size:=by simpa using hb
  subst e
  exact I1.wB (Nat.le_refl _) (I1.hok.fresh (Nat.le_refl _))
 ·obtain⟨its,rv,p,hz⟩:=I1.tuple hq
  refine wpAny_pyIter_tuple (show s1.heap.IsTuple a its.toArray from p) ?_
  refine⟨s1.heap.objs.size,[s1.heap.objs.size],_,_,H1,rfl,I1.kept (t':=s1.toks) fun b o e=>Heap.get?_push_of_some _ e,qt a _,⟨_,Heap.get?_push_size _ rfl,rfl,rfl⟩,fun b hb=>?_,q⟩
  have e:b=s1.heap.objs.size:=by simpa using hb
  subst e
  exact I1.wB (Nat.le_refl _) (I1.hok.fresh (Nat.le_refl _))
theorem tH {K:PySem.W.Frag} {α:List Addr} {H:Hp} {a:Addr} {ds:List D} {vs:List V} (hq':H a=some (.tup vs)) (rs:ao K g α H ds vs):Reads K g (Itt K a) (Src.snap ds).rdr α H:=by
 intro α2 H2 h2 x2 hr i
 have hq2:SqT K H2 a vs:=SqT.of (x2.tup _ _ hq')
 have rs2:=rs.ext x2
 show match some ds[i]? with | none=>True | some none=>_ | some (some d)=>_
 cases e:ds[i]? with
 | none=>
  have:ds.length<=i:=List.getElem?_eq_none_iff.mp e
  exact⟨vs,hq2,by rw[<- rs.length];exact this⟩
 | some d=>
  obtain⟨v,ev,rv⟩:=rs2.get e
  refine⟨⟨vs,v,hq2,ev⟩,fun x H' y=>?_⟩
  obtain⟨e1,e2⟩:=y
  subst e1
  have:=e2 vs hq2
  rw[ev] at this
  cases this
  exact⟨α2,Ext.refl,hr,rv⟩
theorem lP {K:PySem.W.Frag} {α:List Addr} {H:Hp} {a:Addr} {ds:List D} {vs:List V} (hq:Fro K H a vs) (rs:ao K g α H ds vs):Reads K g (Itl K a) (Src.snap ds).rdr α H:=by
 intro α2 H2 h2 x2 hr i
 have hq2:=x2.fro _ _ hq
 have rs2:=rs.ext x2
 show match some ds[i]? with | none=>True | some none=>_ | some (some d)=>_
 cases e:ds[i]? with
 | none=>
  have:ds.length<=i:=List.getElem?_eq_none_iff.mp e
  exact⟨vs,hq2.sq,by rw[<- rs.length];exact this⟩
 | some d=>
  obtain⟨v,ev,rv⟩:=rs2.get e
  refine⟨⟨vs,v,hq2.sq,ev⟩,fun x H' y=>?_⟩
  obtain⟨e1,e2⟩:=y
  subst e1
  have:=e2 vs hq2.sq
  rw[ev] at this
  cases this
  exact⟨α2,Ext.refl,hr,rv⟩
theorem tm {K:PySem.W.Frag} {α:List Addr} {H:Hp} {a:Addr} {n:Nat} (ha:α[n]?=some a):Reads K g (Itl K a) (Src.live n).rdr α H:=by
 intro α2 H2 h2 x2 hr i
 show match (av h2 n).map fun ds=>ds[i]? with | none=>True | some none=>_ | some (some d)=>_
 cases e:av h2 n with
 | none=>trivial
 | some ds=>
  obtain⟨vs,hq',rs⟩:=hr.lst e (x2.get ha)
  have hq:SqL K H2 a vs:=SqL.of hq'
  show match some ds[i]? with | none=>True | some none=>_ | some (some d)=>_
  cases ei:ds[i]? with
  | none=>
   have:ds.length<=i:=List.getElem?_eq_none_iff.mp ei
   exact⟨vs,hq,by rw[<- rs.length];exact this⟩
  | some d=>
   obtain⟨v,ev,rv⟩:=rs.get ei
   refine⟨⟨vs,v,hq,ev⟩,fun x H' y=>?_⟩
   obtain⟨e1,e2⟩:=y
   subst e1
   have:=e2 vs hq
   rw[ev] at this
   cases this
   exact⟨α2,Ext.refl,hr,rv⟩
theorem fw {tg e:Expr} {me:ME} (he:PE X e (tM X.K g ε me)):PI X tg e (tMI X.K g ε (cB me)):=
 PI.imp (Ai he) fun σ H T ⟨α,env,h,s,w⟩=>tM.use s w.bind fun d1 h1 v1 H1 α1 e1 s1 r1 w1=>by
  unfold qg at w1
  cases r1 with
  | tup hq rs=>exact⟨_,rfl,.inr ⟨⟨_,SqT.of hq⟩,w1 _ H1 α1 e1 s1.heap (tH hq rs)⟩⟩
  | frl hq rs=>exact⟨_,rfl,.inl ⟨⟨_,hq.sq⟩,w1 _ H1 α1 e1 s1.heap (lP hq.fro rs)⟩⟩
  | scr hq rs=>exact⟨_,rfl,.inl ⟨⟨_,hq.sq⟩,w1 _ H1 α1 e1 s1.heap (lP hq rs)⟩⟩
  | @ref n p hp=>
   cases el:av h1 n with
   | none=>simp only[el] at w1;exact w1.elim
   | some ds=>
    simp only[el] at w1
    obtain⟨vs,hq,_⟩:=s1.heap.lst el hp
    exact⟨p,rfl,.inl ⟨⟨_,SqL.of hq⟩,w1 _ H1 α1 e1 s1.heap (tm hp)⟩⟩
  | _=>exact w1.elim
noncomputable def bL (lo:Int) (n:Nat):List D:=(List.range n).map fun(i:Nat)=>D.int (lo+i)
noncomputable def eW:List D->Hh->R Src
 | [.int j],h=>if j.natAbs<=1000000 then .ok (.snap (bL 0 j.toNat)) h else .bad
 | _,_=>.bad
noncomputable def gu (f:List D->Hh->R Src) (a:MA):MI:=fun env h=>(a env h).bind f
theorem sY {K:PySem.W.Frag} {α:List Addr} {H:Hp} {lo:Int} {n:Nat}:Reads K g (Itr lo n) (Src.snap (bL lo n)).rdr α H:=by
 intro α2 H2 h2 x2 hr i
 show match some (bL lo n)[i]? with | none=>True | some none=>_ | some (some d)=>_
 unfold bL
 rw[List.getElem?_map]
 by_cases hi:i<n
 ·rw[List.getElem?_range hi]
  refine⟨hi,fun x H' y=>?_⟩
  obtain⟨e1,e2⟩:=y
  subst e1 e2
  exact⟨α2,Ext.refl,hr,.int _⟩
 ·rw[List.getElem?_eq_none (by simpa using hi)]
  exact Nat.le_of_not_lt hi
theorem g9 {tg a:Expr} {ma:MA} {p pos:Pos} (hg:Gl X "range") (hm:X.mg "range" = none) (ha:PA X [a] (tMA X.K g ε ma)) (hs:starEach [a] X.env=[(false,eval a X.env)]:=by rfl):PI X tg (.Call (.Name "range" p) [a] [] pos) (tMI X.K g ε (gu eW ma)):=
 PI.imp (ui hg hm ha hs) fun σ H T ⟨α,env,h,s,w⟩=>tMA.use s w.bind fun d1 h1 v1 H1 α1 e1 s1 r1 w1=>by
  unfold eW at w1
  cases r1 with
  | nil=>exact w1.elim
  | cons ra rr=>
   cases rr with
   | cons _ _=>cases ra<;>exact w1.elim
   | nil=>
    cases ra with
    | int j=>
     obtain⟨hj,w2⟩:=WQ.bI w1
     exact⟨j,rfl,by omega,by omega,w2 _ H1 α1 e1 s1.heap sY⟩
    | _=>exact w1.elim
end
noncomputable abbrev E00:EE:=fun _ _ _=>False
noncomputable abbrev MF:=List D->Hh->R D
noncomputable def cI (n:Nat) (m:MS):MF:=fun ds h=>(m (ds.map some++List.replicate (n - ds.length) none) h).bind fun fl h1=>match fl with
 | .rt d=>.ok d h1
 | .nx _=>.ok .non h1
 | _=>.bad
noncomputable def spG (K:PySem.W.Frag) (g:GG) (ε:XK->EE) (np:Nat) (m:MF):Sp:=fun vs H Q E=>vs.length=np/\∃α ds h,ao K g α H ds vs/\aM K g α H h/\WQ K g (ε E) α H (m ds h) (aB K g α H Q)
noncomputable abbrev spM (K:PySem.W.Frag) (g:GG) (np:Nat) (m:MF):Sp:=spG K g (fun _=>E00) np m
theorem iQ {K:PySem.W.Frag} {g:GG} {α:List Addr} {H:Hp} {N:List Str} {ds:List D} {vs:List V} (r:ao K g α H ds vs):il K g α H (ds.map some++List.replicate (N.length - ds.length) none) (start N vs):=by
 have hl:=r.length
 refine⟨by simp[start,hl],fun i d h=>?_⟩
 by_cases hi:i<ds.length
 ·rw[List.getElem?_append_left (by simpa using hi),List.getElem?_map] at h
  cases e:ds[i]? with
  | none=>rw[e] at h;cases h
  | some d'=>
   rw[e] at h
   cases h
   obtain⟨v,ev,rv⟩:=r.get e
   refine⟨v,?_,rv⟩
   unfold start
   rw[List.getElem?_append_left (by simp;omega),List.getElem?_map,ev]
   rfl
 ·rw[List.getElem?_append_right (by simpa using hi),List.getElem?_replicate] at h
  split at h<;>cases h
section
variable {P:Program} {w:World} {K:PySem.W.Frag} {mg:Str->Option Value} {base:Heap} {g:GG}
theorem gM {x qual:Str} {st:Stmt} {f:Addr} {fd:FuncData} {N ps:List Str} {k:Nat} {mb:MS} (F:Fun K x qual st f fd) (S:aP N ps (aj st))
  (hb:∀(cdv:Value) (A:Around) (outer:List Env) (s:Shared) (H:Hp) (E:XK),bT k (A.deeper (envOfC qual (aj st) s.heap.objs.size f cdv)) →
   PSs (gr CX0 P w K mg base N qual (aj st) f cdv A outer s H E).nox (bq st) (tMS K g E00 mb)):dq P w K mg base CX0 (k+1) f fd ps (spM K g ps.length (cI N.length mb)):=by
 refine F.ok S (fun vs H Q E h=>h.1) fun cdv A outer s H vs Q E hr h=>⟨_,hb cdv A outer s H E hr,?_⟩
 obtain⟨hl,α,ds,h,rs,hh,w⟩:=h
 refine tMS.use ⟨hh,iQ rs⟩ w.bind fun fl h' H' α' e r kk=>?_
 cases fl with
 | nx e'=>exact fun σ' s'=>(show aB K g α H Q .non h' from kk) _ H' α' e r .non
 | bk e'=>exact kk.elim
 | ct e'=>exact kk.elim
 | rt d=>exact fun v rv=>(show aB K g α H Q d h' from kk) _ H' α' e r rv
end
section
variable {X:Cx} {g:GG}
theorem bf {k:Nat} {f:Addr} {fd:FuncData} {ps:List Str} {m:MF} {np:Nat} {x:Str} {p pos:Pos} {e:Expr} {es:List Expr} {mr:MA} (F:dq X.prog X.w X.K X.mg X.base CX0 k f fd ps (spM X.K g np m)) (hr:bT k X.A) (hg:Gl X x) (hm:X.mg x=some (.ref f)) (hk:PySem.W.keepIn X.K (.ref f)=true) (hb:Binds X.K fd ps [])
  (ha:PA X (e::es) (tMA X.K g E00 mr)) (hlen:∀env h ds h',mr env h=.ok ds h'->ds.length=np) (hdb:(x == ("__debug__" : Str))=false:=by decide) (he:starEach (e::es) X.env=(false,eval e X.env)::starEach es X.env:=by rfl) (hpl:(backTo pos (starEach es X.env)).any (·.1)=false:=by rfl) :
  PE X (.Call (.Name x p) (e::es) [] pos) (tM X.K g E00 (ah m mr)):=
 PE.imp (si F hr hg hm hk hb .nil DB ha hdb he hpl) fun σ H Q ⟨α,env,h,s,w⟩=>⟨α,env,h,s,w.bind.mono fun d1 h1 eq w1 v1 H1 α1 e1 hr1 r1=>by
  show spM X.K g np m (v1++[]) H1 Q E0
  rw[List.append_nil]
  refine⟨?_,α1,d1,h1,r1,hr1,w1.post e1⟩
  rw[<- r1.length]
  exact hlen env h d1 h1 eq⟩
theorem a8:∀env h ds h',ai env h=.ok ds h'->ds.length=0:=fun env h ds h' e=>by cases e;rfl
theorem aD {a:ME} {r:MA} {n:Nat} (q:∀env h ds h',r env h=.ok ds h'->ds.length=n):∀env h ds h',aa a r env h=.ok ds h'->ds.length=n+1:=fun env h ds h' e=>by
 unfold aa at e
 cases e1:a env h with
 | ok d h1=>
  rw[e1] at e
  cases e2:r env h1 with
  | ok ds2 h2=>
   have e3:(R.ok (d::ds2) h2:R (List D))=.ok ds h':=by simpa [R.bind,e2] using e
   cases e3
   simp[q env h1 ds2 h' e2]
  | err x h2=>simp[R.bind,e2] at e
  | bad=>simp[R.bind,e2] at e
 | err x h2=>rw[e1] at e;cases e
 | bad=>rw[e1] at e;cases e
end
noncomputable def gC (ix:List Nat) (env:En) (d:D):En:=some d::ix.map fun i=>(env[i]?).join
noncomputable def tt1:MT:=fun _ h=>.ok true h
noncomputable def eU (rd:Rdr) (tt:MT) (te:ME) (ee:D->En):Nat->Nat->List D->Hh->R (List D)
 | k,i,acc,h=>match rd h i with
  | none=>.bad
  | some none=>.ok acc h
  | some (some d)=>match k with
   | 0=>.bad
   | k+1=>(tt (ee d) h).bind fun b h1=>if b=true then (te (ee d) h1).bind fun y h2=>eU rd tt te ee k (i+1) (acc++[y]) h2 else eU rd tt te ee k (i+1) acc h1
noncomputable def cj (tt:MT) (te:ME) (ee:D->En):List D->Hh->R (List D)
 | [],h=>.ok [] h
 | d::ds,h=>(tt (ee d) h).bind fun b h1=>if b=true then (te (ee d) h1).bind fun y h2=>(cj tt te ee ds h2).bind fun ys h3=>.ok (y::ys) h3 else cj tt te ee ds h1
theorem bp {β γ δ:Type} (r:R β) (f:β->Hh->R γ) (k:γ->Hh->R δ):(r.bind f).bind k=r.bind fun b h=>(f b h).bind k:=by cases r<;>rfl
theorem uF (tt:MT) (te:ME) (ee:D->En) (all:List D):∀(ds:List D) (i:Nat) (acc:List D) (h:Hh),all.drop i=ds->eU (Src.snap all).rdr tt te ee ds.length i acc h=(cj tt te ee ds h).bind fun ys h'=>.ok (acc++ys) h':=by
 intro ds
 induction ds with
 | nil=>
  intro i acc h e
  have:all[i]?=none:=by
   have:=congrArg List.length e
   simp at this
   exact List.getElem?_eq_none (by omega)
  unfold eU cj Src.rdr
  simp[this,R.bind]
 | cons d ds ih=>
  intro i acc h e
  have h0:all[i]?=some d:=by
   have:=congrArg (fun l=>l[0]?) e
   simpa using this
  have h1:all.drop (i+1)=ds:=by
   have:=congrArg List.tail e
   simpa using this
  unfold eU cj
  have:(Src.snap all).rdr h i=some (some d):=by unfold Src.rdr;simp[h0]
  rw[this]
  show((tt (ee d) h).bind _)=_
  rw[bp]
  congr 1
  funext b h2
  cases b with
  | false=>rw[if_neg Bool.false_ne_true,if_neg Bool.false_ne_true];exact ih (i+1) acc h2 h1
  | true=>
   rw[if_pos rfl,if_pos rfl,bp]
   congr 1
   funext y h3
   rw[bp]
   have:=ih (i+1) (acc++[y]) h3 h1
   rw[this]
   congr 1
   funext ys h4
   show R.ok (acc++[y]++ys) h4=R.ok (acc++(y::ys)) h4
   simp
noncomputable def ck (nl:NL) (mi:MI) (ix:List Nat) (tt:MT) (te:ME):ME:=fun env h=>(mi env h).bind fun sr h1=>if sr.fuel h1<=1000000 then
 (match sr with
  | .snap ds=>cj tt te (gC ix env) ds h1
  | .live n=>eU (Src.live n).rdr tt te (gC ix env) ((av h1 n).getD []).length 0 [] h1
  | .liveE n=>eU (Src.liveE n).rdr tt te (gC ix env) ((av h1 n).getD []).length 0 [] h1).bind nl else .bad
theorem wk {nl:NL} {mi:MI} {ix:List Nat} {tt:MT} {te:ME} {env:En} {h:Hh}:ck nl mi ix tt te env h=(mi env h).bind fun sr h1=>if sr.fuel h1<=1000000 then (eU sr.rdr tt te (gC ix env) (sr.fuel h1) 0 [] h1).bind nl else .bad:=by
 unfold ck
 congr 1
 funext sr h1
 cases sr with
 | snap ds=>
  have:=uF tt te (gC ix env) ds ds 0 [] h1 rfl
  simp only[List.nil_append] at this
  have e:(Src.snap ds).fuel h1=ds.length:=rfl
  rw[e,this,bp]
  rfl
 | live n=>rfl
 | liveE n=>rfl
theorem x8 {K:PySem.W.Frag} {g:GG} {α:List Addr} {H:Hp} {env:En} {σ:St} {ix:List Nat} {d:D} {v:V} (s:il K g α H env σ) (r:aC K g α H d v):il K g α H (gC ix env d) ((mD ix σ).set 0 (some v)):=by
 refine⟨by simp[gC,mD],fun i e h=>?_⟩
 cases i with
 | zero=>
  have:d=e:=by simpa [gC] using h
  subst this
  exact⟨v,by simp[mD],r⟩
 | succ i=>
  have h':(ix.map fun i=>(env[i]?).join)[i]?=some (some e):=by simpa [gC] using h
  rw[List.getElem?_map] at h'
  cases ei:ix[i]? with
  | none=>rw[ei] at h';cases h'
  | some j=>
   rw[ei] at h'
   have h2:(env[j]?).join=some e:=by simpa using h'
   cases ej:env[j]? with
   | none=>rw[ej] at h2;cases h2
   | some oe=>
    rw[ej] at h2
    have h3:oe=some e:=by simpa using h2
    subst h3
    obtain⟨u,eu,ru⟩:=s.vars j e ej
    refine⟨u,?_,ru⟩
    simp only[mD,List.set_cons_zero,List.getElem?_cons_succ,List.getElem?_map,ei,Option.map_some,eu]
    rfl
section
variable {X:Cx} {g:GG}
theorem ip:PTs X [] (tMT X.K g E00 tt1):=fun pins s σ H Q I ⟨α,env,h,s',w⟩=>yx pins s σ H Q I (w H α Ext.refl s'.heap)
theorem wG {c:Expr} {mt:MT} (h:PT X c (tMT X.K g E00 mt)):PTs X [c] (tMT X.K g E00 mt):=yT h
theorem pI {K:PySem.W.Frag} {nl:NL} [gZ nl] {mi:MI} {tt:MT} {te:ME} {ix:List Nat} {σ:St} {H:Hp} {Q R:VK} (hR:∀v H,gU Q v H->R v H) (t:tM K g E00 (ck nl mi ix tt te) σ H Q):zk (tMI K g E00 mi) ix (tMT K g E00 tt) (tM K g E00 te) σ H R:=by
 obtain⟨α,env,h,s,w⟩:=t
 rw[wk] at w
 refine⟨α,env,h,s,w.bind.mono fun sr h1 _ w1 J H1 α1 e1 hr1 rd=>fun acc hacc=>?_⟩
 obtain⟨hf,w1⟩:=WQ.bI w1
 have s1:=s.ext e1 hr1
 refine⟨fun i m ys H=>∃α h as,Ext K α1 H1 α H/\aM K g α H h/\ao K g α H as ys/\H acc=some (.lst ys)/\acc∉α/\as.length+m<=1000000 ∧
  WQ K g E00 α1 H1 ((eU sr.rdr tt te (gC ix env) m i as h).bind nl) (aB K g α1 H1 Q),
  ⟨sr.fuel h1,α1,h1,[],Ext.fresh hacc,hr1.grow hacc,.nil,aJ,hr1.free hacc,by simpa using hf,w1.post e1⟩,?_⟩
 rintro i m ys H2 ⟨α2,h2,as,x2,hr2,ra,ha,hna,hm,w2⟩
 have q:=rd α2 H2 h2 x2 hr2 i
 unfold eU at w2
 cases e:sr.rdr h2 i with
 | none=>rw[e] at w2;exact w2.elim
 | some od=>
  rw[e] at w2 q
  cases od with
  | none=>
   refine .inl ⟨q,?_⟩
   exact hR _ _ <| gZ.at' (show WQ K g E00 α1 H1 (nl as h2) _ from w2) (fun _ _ z=>z) x2 hr2 ra ha hna hacc
  | some d=>
   cases m with
   | zero=>exact w2.elim
   | succ m=>
    rw[bp] at w2
    have w3:=WQ.bind (show WQ K g E00 α1 H1 ((tt (gC ix env d) h2).bind _) _ from w2)
    refine .inr ⟨q.1,fun x H3 y=>?_⟩
    obtain⟨α3,x3,hr3,rx⟩:=q.2 x H3 y
    have ha3:=x3.keep _ _ ha hna
    have hna3:acc∉α3:=fun z=>by have:=x3.new _ z hna;rw[ha] at this;cases this
    have s3:cH K g α3 H3 (gC ix env d) ((mD ix σ).set 0 (some x)) h2:=⟨hr3,x8 (s1.vs.ext (x2.trans x3)) rx⟩
    refine tMT.use s3 ((w3.ext x2).ext x3) fun b h4 H4 α4 x4 s4 w4=>?_
    have ha4:=x4.keep _ _ ha3 hna3
    have hna4:acc∉α4:=fun z=>by have:=x4.new _ z hna3;rw[ha3] at this;cases this
    cases b with
    | false=>
     rw[if_neg Bool.false_ne_true] at w4 ⊢
     exact⟨m,Nat.lt_succ_self _,α4,h4,as,x2.trans (x3.trans x4),s4.heap,ra.ext (x3.trans x4),ha4,hna4,by omega,w4⟩
    | true=>
     rw[if_pos rfl] at w4 ⊢
     rw[bp] at w4
     refine tM.use s4 (((WQ.bind w4).ext x2).ext (x3.trans x4)) fun y h5 v5 H5 α5 x5 s5 r5 w5=>?_
     have ha5:=x5.keep _ _ ha4 hna4
     have hna5:acc∉α5:=fun z=>by have:=x5.new _ z hna4;rw[ha4] at this;cases this
     have soft:xO H5 acc:=.inr ⟨_,ha5,fun _ z=>(nomatch z),fun _ _ z=>nomatch z⟩
     have x6:Ex0 K α5 H5 α5 (upd H5 acc (.lst (ys++[v5]))):=Ex0.upd soft
     have tr:=x2.trans (x3.trans (x4.trans x5))
     refine⟨ha5,?_,m,Nat.lt_succ_self _,α5,h5,as++[y],⟨tr.toEx0.trans x6,fun p o z n=>?_,tr.new⟩,s5.heap.off soft hna5,((ra.ext (x3.trans (x4.trans x5))).append (.cons r5 .nil)).ex0 x6,aJ,hna5,by rw[List.length_append];simp;omega,w5⟩
     ·rw[<- ra.length,sizeLine_eq];omega
     ·rw[ay (aI z hacc)];exact tr.keep p o z n
end
noncomputable def sml (i:Int):Bool:=decide (i.natAbs<2 ^ 1900)
theorem ke {i:Int} (h:sml i=true):Builtin.Int.intBits i<=1900:=by
 have h':i.natAbs<2 ^ 1900:=of_decide_eq_true h
 unfold Builtin.Int.intBits
 split
 ·omega
 ·rename_i z
  have z':i.natAbs≠0:=by
   intro q
   apply z
   have:i=0:=Int.natAbs_eq_zero.mp q
   rw[this];rfl
  have:=(Nat.log2_lt z').mpr h'
  omega
theorem fV {i:Int} (h:sml i=true):i.natAbs.log2<1900:=by
 have h':i.natAbs<2 ^ 1900:=of_decide_eq_true h
 by_cases z:i.natAbs=0
 ·rw[z];decide
 ·exact(Nat.log2_lt z).mpr h'
theorem Ao {i:Int} (h:i.natAbs<=10 ^ 560):sml i=true:=by
 refine decide_eq_true (Nat.lt_of_le_of_lt h (by decide +kernel))
section
variable {X:Cx} {K:PySem.W.Frag} {g:GG} {ε:EE}
theorem OpR.or {f:Value->Value->Sem Value} {r r':R2} (h:OpR X f r) (h':OpR X f r'):OpR X f (fun x y H Q=>r x y H Q\/r' x y H Q):=fun pins s σ H x y v u Q I rx ry q=>q.elim (h pins s σ H x y v u Q I rx ry) (h' pins s σ H x y v u Q I rx ry)
noncomputable def gR (d:D) (h:Hh):Option (List D):=match d with
 | .frl ds=>some ds
 | .ref n=>av h n
 | _=>none
theorem qw {α:List Addr} {H:Hp} {h:Hh} {d:D} {x:V} {ds:List D} (r:aM K g α H h) (rd:aC K g α H d x) (e:gR d h=some ds):∃p vs,x=.ref p/\Rd H p (.lst vs)/\ao K g α H ds vs:=by
 unfold gR at e
 cases rd with
 | frl hq rs=>cases e;exact⟨_,_,rfl,hq.rd,rs⟩
 | ref hp=>obtain⟨vs,hv,rs⟩:=r.lst e hp;exact⟨_,vs,rfl,.inl hv,rs⟩
 | _=>cases e
noncomputable def zu:R2:=fun x y H Q=>∃l b xs zs,x=.ref l/\y=.ref b/\Rd H l (.lst xs)/\Rd H b (.lst zs)/\xs.length+zs.length<=sizeLine/\∀p,H p=none->Q (.ref p) (upd H p (.lst (xs++zs)))
theorem Bo {X:Cx} {pins:List (Addr × Obj)} {σ:St} {H:Hp} {s:Shared} {l:Addr} {xs:List V} (I:Inv X pins σ H s) (h:Rd H l (.lst xs)):∃(its:List Value) (n:Nat),xs.length<=sizeLine/\Vals xs its/\xs.length=its.length/\s.heap.get? l=some { cls:=.type "list", data:=.seq its.toArray n }:=by
 obtain⟨z,its,n,r,e⟩:=h.ok I.hok
 exact⟨its,n,z,r,r.length,e⟩
theorem zc:OpR X (binaryOp .Add) zu:=by
 intro pins s σ H x y v u Q I rx ry h
 obtain⟨l,b,xs,zs,rfl,rfl,hH,hB,hz,q⟩:=h
 cases rx
 cases ry
 obtain⟨its,n,z,r,hl,e⟩:=Bo I hH
 obtain⟨its2,n2,z2,r2,hl2,e2⟩:=Bo I hB
 refine PySem.P.add_list e e2 ?_ (by rw[List.size_toArray,List.size_toArray];omega)
 have ea:its.toArray++its2.toArray=(its++its2).toArray:=by simp
 rw[ea]
 exact⟨.ref _,_,I.sQ (t':=s.toks) (r.append r2) (by rw[List.length_append];omega),rfl,q _ I.fresh⟩
noncomputable def aL (nl:NL):D->D->Hh->R D:=fun x y h=>match x,y with
 | .int i,.int j=>.ok (.int (i+j)) h
 | .tup a,.tup b=>if a.length+b.length<=1000000 then .ok (.tup (a++b)) h else .bad
 | .str a,.str b=>if a.length+b.length<=1000000 then .ok (.str (a++b)) h else .bad
 | x,y=>match gR x h,gR y h with
  | some a,some b=>if a.length+b.length<=1000000 then nl (a++b) h else .bad
  | _,_=>.bad
noncomputable abbrev uZ (K:PySem.W.Frag):R2:=fun x y H Q=>(rI0 fun i j=>.int (i+j)) x y H Q\/(zE K x y H Q\/uV K x y H Q)\/zu x y H Q\/∃i j,x=.str i/\y=.str j/\i.length+j.length<=sizeLine/\Q (.str (i++j)) H
theorem ba:OpR X (binaryOp .Add) (fun x y H Q=>uZ X.K x y H (gU Q)):=OpR.frz (OpR.or Bw (OpR.or (OpR.or yb ve) (OpR.or zc qE)))
theorem aB.tO {α:List Addr} {H:Hp} {h:Hh} {Q:VK} {d:D} {v:V} (p:aB K g α H Q d h) (r:aM K g α H h) (rd:aC K g α H d v):gU Q v H:=.inl (p.now r rd)
theorem a9 {nl:NL} [gZ nl]:cG K g ε (aL nl) (fun x y H Q=>uZ K x y H (gU Q)):=by
 intro α H h a b x y Q r ra rb w
 have gen:∀{a b:D} {x y:V},aC K g α H a x->aC K g α H b y->WQ K g ε α H (match gR a h,gR b h with
  | some a,some b=>if a.length+b.length<=1000000 then nl (a++b) h else .bad
  | _,_=>.bad) (aB K g α H Q)->uZ K x y H (gU Q):=by
  intro a b x y ra rb w
  cases e1:gR a h with
  | none=>simp only[e1] at w;exact w.elim
  | some da=>
   cases e2:gR b h with
   | none=>simp only[e1,e2] at w;exact w.elim
   | some db=>
    simp only[e1,e2] at w
    obtain⟨p,va,rfl,hva,rsa⟩:=qw r ra e1
    obtain⟨q,vb,rfl,hvb,rsb⟩:=qw r rb e2
    obtain⟨hl,w⟩:=WQ.bI w
    refine .inr (.inr (.inl ⟨p,q,va,vb,rfl,rfl,hva,hvb,dQ (by rw[<- rsa.length,<- rsb.length];exact hl),fun l hl'=>?_⟩))
    exact NL.post w r (rsa.append rsb) hl'
 unfold aL at w
 split at w
 ·cases ra
  cases rb
  exact .inl ⟨_,_,rfl,rfl,aB.tO w r (.int _)⟩
 ·cases ra with
  | @tup da pa va ha rsa=>
   cases rb with
   | @tup db pb vb hb rsb=>
    obtain⟨hl,w⟩:=WQ.bI w
    refine .inr (.inl ?_)
    cases va with
    | nil=>
     cases rsa
     exact .inr ⟨_,_,_,rfl,rfl,SqT.of ha,SqT.of hb,aB.tO w r (.tup hb rsb)⟩
    | cons z zs=>
     refine .inl ⟨_,_,_,_,rfl,rfl,SqT.of ha,SqT.of hb,by simp,dQ (by rw[<- rsa.length,<- rsb.length];exact hl),fun e=>?_,fun _ p hp=>.inl (aB.tup w r (rsa.append rsb) hp)⟩
     subst e
     cases rsb
     refine aB.tO w r (.tup ha ?_)
     rw[List.append_nil];exact rsa
 ·cases ra
  cases rb
  obtain⟨hl,w⟩:=WQ.bI w
  exact .inr (.inr (.inr ⟨_,_,rfl,rfl,dQ hl,aB.tO w r (.str _)⟩))
 ·exact gen ra rb w
noncomputable def ub:D->D->Hh->R D
 | .int i,.int j,h=>.ok (.int (i - j)) h
 | _,_,_=>.bad
theorem wY:cG K g ε ub (rI0 fun i j=>.int (i - j)):=by
 intro α H h a b x y Q r ra rb w
 unfold ub at w
 cases ra with
 | int i=>
  cases rb with
  | int j=>exact⟨i,j,rfl,rfl,aB.now w r (.int _)⟩
  | _=>exact w.elim
 | _=>exact w.elim
noncomputable def zH:R2:=fun x y H Q=>∃l k xs,x=.ref l/\y=.int k/\Rd H l (.lst xs)/\-(2 ^ 63)<=k/\k<2 ^ 63/\xs.length*k.toNat<=sizeLine ∧
 ∀p,H p=none->Q (.ref p) (upd H p (.lst (List.replicate k.toNat xs).flatten))
theorem yR:OpR X (binaryOp .Mult) zH:=by
 intro pins s σ H x y v u Q I rx ry h
 obtain⟨l,k,xs,rfl,rfl,hH,h1,h2,hz,q⟩:=h
 cases rx
 obtain⟨t,rfl⟩:=ry
 obtain⟨its,n,z,r,hl,e⟩:=Bo I hH
 have hlen:its.toArray.size*k.toNat<=sizeLine:=by rw[List.size_toArray,<- hl];exact hz
 have hcap:¬ its.toArray.size*k.toNat > (2 ^ 63 - 1) / 8:=by
  have:(sizeLine:Nat)<=(2 ^ 63 - 1) / 8:=by decide
  omega
 have hfit:¬ (!Builtin.List.listFitsIndex k)=true:=by
  rw[fitsIndex_both h1 h2]
  exact Bool.false_ne_true
 have hlong:¬ Builtin.List.listTooLong (its.toArray.size*k.toNat)=true:=by
  rw[uT hlen]
  exact Bool.false_ne_true
 have hnew:List.foldl (fun x1 x2=>x1++x2) #[] (List.replicate (if its.toArray.isEmpty=true then 0 else k.toNat) its.toArray)=(List.replicate k.toNat its).flatten.toArray:=by
  have f0:∀m:Nat,List.foldl (fun x1 x2=>x1++x2) #[] (List.replicate m its.toArray)=(List.replicate m its).flatten.toArray:=fun m=>by
   have:=foldl_rep its m []
   rw[List.nil_append] at this
   exact this
  rw[f0]
  cases its with
  | nil=>simp
  | cons a r'=>rw[if_neg (by simp)]
 refine wpAny_binaryOp_repeat_ref (T:="list") (U:="int") (by decide) ⟨_,e,rfl⟩ (fun s'=>typeIs_int s' k t) noFill_list_mul F.fills_int_mul F.slot_int_rmul repeat_list F.slot_int_index.lookup
  (call_meets F.slot_int_rmul (typeIs_int s k t) F.entry_int_rmul (F.args_int_rmul_2 _ _) (int___rmul___int_list k t l its.toArray n)
   ⟨e,rfl,⟨_,e,rfl⟩,call_meets F.slot_list_mul ⟨_,e,rfl⟩ F.entry_list_mul (F.args_list_mul_2 _ _) (AutoListH.list___mul___list_int_3 l its.toArray n k t hfit hcap hlong) ⟨e,?_⟩⟩)
 rw[hnew]
 exact⟨.ref _,_,I.sQ (t':=s.toks) (r.rep k.toNat) (by rw[len_rep,Nat.mul_comm];exact hz),rfl,q _ I.fresh⟩
noncomputable def ff (nl:NL):D->D->Hh->R D:=fun x y h=>match x,y with
 | .int i,.int j=>if sml i=true/\sml j=true then .ok (.int (i*j)) h else .bad
 | x,.int k=>match gR x h with
  | some ds=>if k.natAbs<=1000000/\ds.length*k.toNat<=1000000 then nl (List.replicate k.toNat ds).flatten h else .bad
  | none=>.bad
 | _,_=>.bad
theorem xQ:OpR X (binaryOp .Mult) (rI (fun i j=>sml i=true/\sml j=true) fun i j=>.int (i*j)):=opI fun _ _ _ _ _ _ _ hc q=>mul_int q (IntMulOk.of_bits (Nat.le_trans (ke hc.1) (by decide)) (Nat.le_trans (ke hc.2) (by decide)))
noncomputable abbrev w_:R2:=fun x y H Q=>(rI (fun i j=>sml i=true/\sml j=true) fun i j=>.int (i*j)) x y H Q\/zH x y H Q
theorem jY:OpR X (binaryOp .Mult) (fun x y H Q=>w_ x y H (gU Q)):=OpR.frz (OpR.or xQ yR)
theorem kn {nl:NL} [gZ nl]:cG K g ε (ff nl) (fun x y H Q=>w_ x y H (gU Q)):=by
 intro α H h a b x y Q r ra rb w
 have gen:∀{a:D} {k:Int} {x:V},aC K g α H a x->WQ K g ε α H (match gR a h with
  | some ds=>if k.natAbs<=1000000/\ds.length*k.toNat<=1000000 then nl (List.replicate k.toNat ds).flatten h else .bad
  | none=>.bad) (aB K g α H Q)->w_ x (.int k) H (gU Q):=by
  intro a k x ra w
  cases e1:gR a h with
  | none=>simp only[e1] at w;exact w.elim
  | some ds=>
   simp only[e1] at w
   obtain⟨hl,w⟩:=WQ.bI w
   obtain⟨p,vs,rfl,hv,rs⟩:=qw r ra e1
   refine .inr ⟨p,k,vs,rfl,rfl,hv,by omega,by omega,dQ (by rw[<- rs.length];exact hl.2),fun l hl'=>?_⟩
   exact NL.post w r (rs.flat k.toNat) hl'
 unfold ff at w
 split at w
 ·cases ra
  cases rb
  obtain⟨hc,w⟩:=WQ.bI w
  exact .inl ⟨_,_,rfl,rfl,hc,aB.tO w r (.int _)⟩
 ·cases rb
  exact gen ra w
 ·exact w.elim
noncomputable def v7:D->D->Hh->R D
 | .int i,.int j,h=>if 0<j/\sml j=true then .ok (.int (i / j)) h else .bad
 | _,_,_=>.bad
theorem pX:OpR X (binaryOp .FloorDiv) (rI (fun i j=>0<j/\sml j=true) fun i j=>.int (i / j)):=opI fun i j _ _ _ _ _ hc q=>by
 have e:i.fdiv j=i / j:=Int.fdiv_eq_ediv_of_nonneg _ (by omega)
 refine floordiv_int (by omega) ?_ (.inl (PyProof.noPylong_of_log2 (Nat.lt_trans (fV hc.2) (by decide))))
 rw[e];exact q
theorem vU:cG K g ε v7 (rI (fun i j=>0<j/\sml j=true) fun i j=>.int (i / j)):=by
 intro α H h a b x y Q r ra rb w
 unfold v7 at w
 cases ra with
 | int i=>
  cases rb with
  | int j=>
   obtain⟨hc,w⟩:=WQ.bI w
   exact⟨i,j,rfl,rfl,hc,aB.now w r (.int _)⟩
  | _=>exact w.elim
 | _=>exact w.elim
noncomputable def pT:D->D->Hh->R D
 | .int i,.int j,h=>if 0<j then .ok (.int (i % j)) h else .bad
 | _,_,_=>.bad
theorem jR:cG K g ε pT (rI (fun _ j=>0<j) fun i j=>.int (i % j)):=by
 intro α H h a b x y Q r ra rb w
 unfold pT at w
 cases ra with
 | int i=>
  cases rb with
  | int j=>
   obtain⟨hc,w⟩:=WQ.bI w
   exact⟨i,j,rfl,rfl,hc,aB.now w r (.int _)⟩
  | _=>exact w.elim
 | _=>exact w.elim
noncomputable def yZ:D->D->Hh->R D
 | .int i,.int j,h=>if 0<=j/\j.natAbs<=1000/\sml i=true then .ok (.int (i ^ j.toNat)) h else .bad
 | _,_,_=>.bad
theorem xN:OpR X (binaryOp .Pow) (rI (fun i j=>0<=j/\j.natAbs<=1000/\sml i=true) fun i j=>.int (i ^ j.toNat)):=opI fun i j _ _ _ _ _ hc q=>pow_int hc.1 (by
 have:=ke hc.2.2
 have h1:((Builtin.Int.intBits i:Nat):Int)<=1900:=by exact_mod_cast this
 calc ((Builtin.Int.intBits i:Nat):Int)*j<=1900*j:=Int.mul_le_mul_of_nonneg_right h1 hc.1
  _<=1900*1000:=Int.mul_le_mul_of_nonneg_left (show j<=1000 by have:=hc.2.1;omega) (by decide)
  _<=2 ^ 27:=by decide) q
theorem BF:cG K g ε yZ (rI (fun i j=>0<=j/\j.natAbs<=1000/\sml i=true) fun i j=>.int (i ^ j.toNat)):=by
 intro α H h a b x y Q r ra rb w
 unfold yZ at w
 cases ra with
 | int i=>
  cases rb with
  | int j=>
   obtain⟨hc,w⟩:=WQ.bI w
   exact⟨i,j,rfl,rfl,hc,aB.now w r (.int _)⟩
  | _=>exact w.elim
 | _=>exact w.elim
noncomputable def ud (p:Int->Int->Bool):D->D->Hh->R D
 | .int i,.int j,h=>.ok (.bl (p i j)) h
 | _,_,_=>.bad
noncomputable def ltI:Int->Int->Bool
 | .ofNat a,.ofNat b=>Nat.blt a b
 | .ofNat _,.negSucc _=>false
 | .negSucc _,.ofNat _=>true
 | .negSucc a,.negSucc b=>Nat.blt b a
theorem kQ:ltI=fun i j=>decide (i<j):=by
 funext i j
 cases i with
 | ofNat a=>
  cases j with
  | ofNat b=>
   show Nat.blt a b=_
   rw[Bool.eq_iff_iff,Nat.blt_eq,decide_eq_true_iff]
   exact Int.ofNat_lt.symm
  | negSucc b=>exact(decide_eq_false (by have:Int.ofNat a=(a:Int):=rfl;omega)).symm
 | negSucc a=>
  cases j with
  | ofNat b=>exact(decide_eq_true (by have:Int.ofNat b=(b:Int):=rfl;omega)).symm
  | negSucc b=>
   show Nat.blt b a=_
   rw[Bool.eq_iff_iff,Nat.blt_eq,decide_eq_true_iff]
   omega
noncomputable def leI (i j:Int):Bool:=!ltI j i
theorem m4:leI=fun i j=>decide (i<=j):=by
 funext i j
 unfold leI
 rw[kQ,Bool.eq_iff_iff]
 simp
noncomputable def dLt:D->D->Hh->R D:=ud ltI
noncomputable def dLe:D->D->Hh->R D:=ud leI
noncomputable def dGt:D->D->Hh->R D:=ud fun i j=>ltI j i
noncomputable def dGe:D->D->Hh->R D:=ud fun i j=>leI j i
theorem mJ {p:Int->Int->Bool}:cG K g ε (ud p) (rI0 fun i j=>.bl (p i j)):=by
 intro α H h a b x y Q r ra rb w
 unfold ud at w
 cases ra with
 | int i=>
  cases rb with
  | int j=>exact⟨i,j,rfl,rfl,aB.now w r (.bl _)⟩
  | _=>exact w.elim
 | _=>exact w.elim
theorem CK:cG K g ε dLt (rI0 fun i j=>.bl (decide (i<j))):=by
 unfold dLt;rw[kQ];exact mJ
theorem md:cG K g ε dLe (rI0 fun i j=>.bl (decide (i<=j))):=by
 unfold dLe;rw[m4];exact mJ
theorem oW:cG K g ε dGt (rI0 fun i j=>.bl (decide (j<i))):=by
 unfold dGt;rw[kQ];exact mJ
theorem Dy:cG K g ε dGe (rI0 fun i j=>.bl (decide (j<=i))):=by
 unfold dGe;rw[m4];exact mJ
noncomputable def kH (d:D) (h:Hh):Option (List D):=match d with
 | .tup ds=>some ds
 | .frl ds=>some ds
 | .scr ds=>some ds
 | .ref n=>av h n
 | _=>none
theorem rP {α:List Addr} {H:Hp} {h:Hh} {d:D} {x:V} {ds:List D} (r:aM K g α H h) (rd:aC K g α H d x) (e:kH d h=some ds):∃p vs,x=.ref p/\(SqL K H p vs\/SqT K H p vs)/\ao K g α H ds vs:=by
 unfold kH at e
 cases rd with
 | tup hq rs=>cases e;exact⟨_,_,rfl,.inr (SqT.of hq),rs⟩
 | frl hq rs=>cases e;exact⟨_,_,rfl,.inl hq.sq,rs⟩
 | scr hq rs=>cases e;exact⟨_,_,rfl,.inl hq.sq,rs⟩
 | ref hp=>obtain⟨vs,hv,rs⟩:=r.lst e hp;exact⟨_,vs,rfl,.inl (SqL.of hv),rs⟩
 | _=>cases e
noncomputable def dIx:D->D->Hh->R D:=fun a b h=>match kH a h,b with
 | some ds,.int i=>match atI ds i with
  | some d=>.ok d h
  | none=>.bad
 | _,_=>.bad
theorem yy {α:List Addr} {H:Hp} {ds:List D} {vs:List V} {i:Int} {d:D} (rs:ao K g α H ds vs) (e:atI ds i=some d):∃v,atI vs i=some v/\aC K g α H d v:=by
 unfold atI at e ⊢
 rw[<- rs.length]
 cases e1:ixN ds.length i with
 | none=>rw[e1] at e;cases e
 | some j=>
  rw[e1] at e
  exact rs.get e
theorem i7:cG K g ε dIx (rIx K):=by
 intro α H h a b x y Q r ra rb w
 unfold dIx at w
 cases e1:kH a h with
 | none=>simp only[e1] at w;exact w.elim
 | some ds=>
  simp only[e1] at w
  obtain⟨p,vs,rfl,hq,rs⟩:=rP r ra e1
  cases rb with
  | int i=>
   cases e2:atI ds i with
   | none=>simp only[e2] at w;exact w.elim
   | some d=>
    simp only[e2] at w
    obtain⟨v,ev,rv⟩:=yy rs e2
    rcases hq with hq | hq
    ·exact .inl ⟨p,vs,i,v,rfl,rfl,hq,ev,aB.now w r rv⟩
    ·exact .inr (.inl ⟨p,vs,i,v,rfl,rfl,hq,ev,aB.now w r rv⟩)
  | _=>exact w.elim
noncomputable def iP:D->D->D->Hh->R Unit:=fun o i v h=>match o,i with
 | .ref n,.int k=>match av h n with
  | some ds=>match ixN ds.length k with
   | some j=>.ok () (h.set n (.lst (ds.set j v)))
   | none=>.bad
  | none=>.bad
 | _,_=>.bad
theorem oF:Dd K g ε iP zy:=by
 intro α H h o i v x y z Q r ro ri rv w
 unfold iP at w
 cases ro with
 | @ref n p hp=>
  cases ri with
  | int k=>
   cases e1:av h n with
   | none=>simp only[e1] at w;exact w.elim
   | some ds=>
    simp only[e1] at w
    cases e2:ixN ds.length k with
    | none=>simp only[e2] at w;exact w.elim
    | some j=>
     simp only[e2] at w
     obtain⟨vs,hv,rs⟩:=r.lst e1 hp
     refine⟨p,vs,k,j,rfl,rfl,hv,by rw[<- rs.length];exact e2,?_⟩
     have x:=Ext.write (o:=.lst (vs.set j z)) r hp
     exact w _ α x (r.write hp ⟨_,aJ,(rs.set rv j).ext x⟩)
  | _=>exact w.elim
 | _=>exact w.elim
noncomputable def cutD (xs:List D) (lo hi:Option Int):List D:=(xs.drop (HT.sIx xs.length 0 lo)).take (HT.sIx xs.length xs.length hi - HT.sIx xs.length 0 lo)
theorem gH {α:List Addr} {H:Hp} {ds:List D} {vs:List V} (rs:ao K g α H ds vs) (lo hi:Option Int):ao K g α H (cutD ds lo hi) (la vs lo hi):=by
 unfold cutD la
 rw[<- rs.length]
 exact(rs.drop _).take _
noncomputable abbrev MO:=En->Hh->R (Option Int)
noncomputable def bX:MO:=fun _ h=>.ok none h
noncomputable def cL (a:ME):MO:=fun env h=>(a env h).bind fun d h1=>match d with
 | .int i=>.ok (some i) h1
 | _=>.bad
noncomputable def tMO (K:PySem.W.Frag) (g:GG) (ε:EE) (m:MO):TO:=fun σ H Q=>∃α env h,cH K g α H env σ h/\WQ K g ε α H (m env h) fun o h'=>∀H' α',Ext K α H α' H'->aM K g α' H' h'->Q o H'
theorem PO.imp {e:Option Expr} {t t':TO} (h:PO X e t) (i:∀σ H Q,t' σ H Q->t σ H Q):PO X e t':=fun pins s σ H Q I w=>h pins s σ H Q I (i σ H Q w)
theorem fU:PO X none (tMO X.K g ε bX):=PO.imp yf fun σ H Q ⟨α,env,h,s,w⟩=>w H α Ext.refl s.heap
theorem dP {e:Expr} {me:ME} (he:PE X e (tM X.K g ε me)):PO X (some e) (tMO X.K g ε (cL me)):=PO.imp (xK he) fun σ H Q ⟨α,env,h,s,w⟩=>tM.use s w.bind fun d1 h1 v1 H1 α1 e1 s1 r1 w1=>by
 cases r1 with
 | int i=>exact⟨i,rfl,w1 H1 α1 e1 s1.heap⟩
 | _=>exact w1.elim
noncomputable def xY (nl:NL):D->Option Int->Option Int->Hh->R D:=fun d lo hi h=>match d with
 | .tup ds=>.ok (.tup (cutD ds lo hi)) h
 | .frl ds=>nl (cutD ds lo hi) h
 | .scr ds=>nl (cutD ds lo hi) h
 | .ref n=>match av h n with
  | some ds=>nl (cutD ds lo hi) h
  | none=>.bad
 | _=>.bad
noncomputable def nS (nl:NL) (a:ME) (l u:MO):ME:=fun env h=>(a env h).bind fun x h1=>(l env h1).bind fun lo h2=>(u env h2).bind fun hi h3=>xY nl x lo hi h3
theorem tMO.use {α:List Addr} {H:Hp} {env:En} {σ:St} {h:Hh} {m:MO} {Q:Option Int->Hp->Prop} {k:Option Int->Hh->Prop} (s:cH K g α H env σ h) (w:WQ K g ε α H (m env h) k)
  (q:∀d h' H' α',Ext K α H α' H'->cH K g α' H' env σ h'->k d h'->Q d H'):tMO K g ε m σ H Q:=
 ⟨α,env,h,s,w.mono fun d h' _ kk H' α' e r=>q d h' H' α' e (s.ext e r) kk⟩
theorem wM {nl:NL} [gZ nl] {e:Expr} {me:ME} {lo hi:Option Expr} {ml mh:MO} {p2 pos:Pos} (he:PE X e (tM X.K g ε me)) (hl:PO X lo (tMO X.K g ε ml)) (hu:PO X hi (tMO X.K g ε mh)):PE X (.Subscript e (.Slice lo hi none p2) pos) (tM X.K g ε (nS nl me ml mh)):=
 PE.imp (PE.frz (oN (SlR.or yq (SlR.or Bd xZ)) he hl hu)) fun σ H Q ⟨α,env,h,s,w⟩=>tM.use s w.bind fun d1 h1 v1 H1 α1 e1 s1 r1 w1=>tMO.use s1 (w1.ext e1).bind fun o2 h2 H2 α2 e2 s2 w2=>tMO.use s2 (w2.ext e2).bind fun o3 h3 H3 α3 e3 s3 w3=>by
  have tr:=e1.trans (e2.trans e3)
  have r3:=r1.ext (e2.trans e3)
  have w4:=(w3.ext e3).mono fun _ _ _ p=>aB.ext tr p
  unfold xY at w4
  cases r3 with
  | @frl ds p vs hq rs=>exact .inl ⟨_,_,rfl,hq.sq,fun l hl=>NL.post w4 s3.heap (gH rs _ _) hl⟩
  | @scr ds p vs hq rs=>exact .inl ⟨_,_,rfl,hq.sq,fun l hl=>NL.post w4 s3.heap (gH rs _ _) hl⟩
  | @ref n p hp=>
   cases e1:av h3 n with
   | none=>simp only[e1] at w4;exact w4.elim
   | some ds=>
    simp only[e1] at w4
    obtain⟨vs,hv,rs⟩:=s3.heap.lst e1 hp
    exact .inl ⟨_,_,rfl,SqL.of hv,fun l hl=>NL.post w4 s3.heap (gH rs _ _) hl⟩
  | @tup ds p vs hq rs=>
   refine .inr ?_
   by_cases hw:HT.sIx vs.length 0 o2=0/\HT.sIx vs.length vs.length o3=vs.length
   ·refine .inr ⟨_,_,rfl,SqT.of hq,hw.1,hw.2,?_⟩
    refine aB.tO w4 s3.heap (.tup hq ?_)
    have:la vs o2 o3=vs:=by unfold la;rw[hw.1,hw.2];simp
    have q:=gH rs o2 o3
    rw[this] at q
    exact q
   ·exact .inl ⟨_,_,rfl,SqT.of hq,hw,fun l hl=>.inl (aB.tup w4 s3.heap (gH rs _ _) hl)⟩
  | _=>exact w4.elim
end
noncomputable def dj:D->Bool
 | .non=>true | .bl _=>true | .int _=>true | .str _=>true
 | _=>false
noncomputable def eqF:D->D->Bool
 | .non,.non=>true
 | .bl a,.bl b=>a == b
 | .bl a,.int b=>(if a then 1 else 0) == b
 | .int a,.bl b=>a == (if b then 1 else 0)
 | .int a,.int b=>a == b
 | .str a,.str b=>a == b
 | _,_=>false
noncomputable def eqL (f:D->D->Option Bool):List D->List D->Option Bool
 | x::xs,y::ys=>match f x y,eqL f xs ys with
  | some b,some c=>some (b&&c)
  | _,_=>none
 | [],[]=>some true
 | _,_=>some false
inductive Vw where
 | fl | tp (ds:List D) | ls (ds:List D) | no
noncomputable def vw (d:D) (h:Hh):Vw:=match d with
 | .non=>.fl | .bl _=>.fl | .int _=>.fl | .str _=>.fl
 | .tup ds=>.tp ds
 | .frl ds=>.ls ds
 | .scr ds=>.ls ds
 | .ref n=>match av h n with
  | some ds=>.ls ds
  | none=>.no
 | _=>.no
noncomputable def eqD:Nat->Hh->D->D->Option Bool
 | 0,_,_,_=>none
 | k+1,h,a,b=>match vw a h,vw b h with
  | .fl,.fl=>some (eqF a b)
  | .tp xs,.tp ys=>eqL (eqD k h) xs ys
  | .ls xs,.ls ys=>if xs.length=ys.length then eqL (eqD k h) xs ys else some false
  | .fl,.tp _=>some false
  | .fl,.ls _=>some false
  | .tp _,.fl=>some false
  | .tp _,.ls _=>some false
  | .ls _,.fl=>some false
  | .ls _,.tp _=>some false
  | _,_=>none
section
variable {K:PySem.W.Frag} {g:GG} {α:List Addr} {H:Hp} {h:Hh}
theorem kM {f:D->D->Option Bool} (hf:∀a b x c,aC K g α H a x->aC K g α H b x->f a b=some c->c=true):∀{xs ys:List D} {vs:List V} {c:Bool},ao K g α H xs vs->ao K g α H ys vs->eqL f xs ys=some c->c=true
 | _,_,_,_,.nil,.nil,e=>by simp[eqL] at e;exact e
 | _,_,_,c,.cons r t,.cons r' t',e=>by
  unfold eqL at e
  split at e
  ·rename_i b c' h1 h2
   have e1:=hf _ _ _ _ r r' h1
   have e2:=kM hf t t' h2
   subst e1 e2
   exact(Option.some.inj e).symm
  ·cases e
theorem i8 {d:D} {x:V} (rd:aC K g α H d x) (e:vw d h=.fl):dj d=true:=by
 cases rd with
 | ref hp=>unfold vw at e;simp only at e;split at e<;>cases e
 | _=>first | rfl | cases e
theorem ja {d:D} {x:V} {ds:List D} (rd:aC K g α H d x) (e:vw d h=.tp ds):∃p vs,x=.ref p/\SqT K H p vs/\ao K g α H ds vs:=by
 cases rd with
 | tup hp rs=>cases e;exact⟨_,_,rfl,SqT.of hp,rs⟩
 | ref hp=>unfold vw at e;simp only at e;split at e<;>cases e
 | _=>cases e
theorem i6 {d:D} {x:V} {ds:List D} (r:aM K g α H h) (rd:aC K g α H d x) (e:vw d h=.ls ds):∃p vs,x=.ref p/\SqL K H p vs/\ao K g α H ds vs:=by
 cases rd with
 | frl hp rs=>cases e;exact⟨_,_,rfl,hp.sq,rs⟩
 | scr hp rs=>cases e;exact⟨_,_,rfl,hp.sq,rs⟩
 | @ref n p hp=>
  unfold vw at e
  simp only at e
  cases el:av h n with
  | none=>rw[el] at e;cases e
  | some ds'=>
   rw[el] at e;cases e
   obtain⟨vs,hv,rs⟩:=r.lst el hp
   exact⟨_,_,rfl,SqL.of hv,rs⟩
 | _=>cases e
theorem rE {f:D->D->Option Bool}:∀{xs ys:List D} {c:Bool},eqL f xs ys=some c →
  (∀(j:Nat) (x y:D),xs[j]?=some x->ys[j]?=some y->∃b,f x y=some b)/\c=((List.range (min xs.length ys.length)).all (fun j=>((f (xs.getD j .non) (ys.getD j .non)).getD false))&&xs.length == ys.length)
 | [],[],c,e=>by
  simp[eqL] at e
  refine⟨fun j x y h=>by simp at h,?_⟩
  simp[<- e]
 | [],_::_,c,e=>by
  simp[eqL] at e
  exact⟨fun j x y h=>by simp at h,by simp[<- e]⟩
 | _::_,[],c,e=>by
  simp[eqL] at e
  exact⟨fun j x y _ h=>by simp at h,by simp[<- e]⟩
 | x::xs,y::ys,c,e=>by
  unfold eqL at e
  split at e
  ·rename_i b c' h1 h2
   obtain⟨q1,q2⟩:=rE h2
   refine⟨fun j x' y' hx hy=>?_,?_⟩
   ·cases j with
    | zero=>simp at hx hy;subst hx hy;exact⟨b,h1⟩
    | succ j=>exact q1 j x' y' (by simpa using hx) (by simpa using hy)
   ·have e':=(Option.some.inj e).symm
    rw[e',q2]
    have hm:min (x::xs).length (y::ys).length=min xs.length ys.length+1:=by simp[Nat.succ_min_succ]
    rw[hm,List.range_succ_eq_map,List.all_cons,List.all_map]
    have h0:(f ((x::xs).getD 0 .non) ((y::ys).getD 0 .non)).getD false=b:=by
     show(f x y).getD false=b
     rw[h1];rfl
    rw[h0]
    have hlen:((x::xs).length == (y::ys).length)=(xs.length == ys.length):=by simp
    rw[hlen,Bool.and_assoc]
    rfl
  ·cases e
end
section
variable {X:Cx} {g:GG} {pins:List (Addr × Obj)} {σ:St} {H:Hp} {s:Shared} {α:List Addr} {h:Hh}
open PySem.SeqAt
theorem yO {A:Around} {a b:D} {x y:V} {u v:Value} {K:PySem.W.Frag} (ra:aC K g α H a x) (rb:aC K g α H b y) (ru:RelV x u) (rv:RelV y v) (fa:dj a=true) (fb:dj b=true) :
  EqAt A s u v (eqF a b)/\RcAt A s u v (eqF a b)/\RcNeAt A s u v (!eqF a b):=by
 cases ra with
 | non=>
  cases ru
  cases rb with
  | non=>cases rv;exact⟨.same _,.none_none,.none_none⟩
  | bl z=>cases rv;exact⟨.none_bool z,.none_bool z,.none_bool z⟩
  | int z=>obtain⟨t,rfl⟩:=rv;exact⟨.none_int z t,.none_int z t,.none_int z t⟩
  | str z=>obtain⟨t,rfl⟩:=rv;exact⟨.none_str z t,.none_str z t,.none_str z t⟩
  | _=>cases fb
 | bl q=>
  cases ru
  cases rb with
  | non=>cases rv;exact⟨.bool_none q,.bool_none q,.bool_none q⟩
  | bl z=>cases rv;exact⟨.bool_bool q z,.bool_bool q z,.bool_bool q z⟩
  | int z=>obtain⟨t,rfl⟩:=rv;exact⟨.bool_int q z t,.bool_int q z t,.bool_int q z t⟩
  | str z=>obtain⟨t,rfl⟩:=rv;exact⟨.bool_str q z t,.bool_str q z t,.bool_str q z t⟩
  | _=>cases fb
 | int q=>
  obtain⟨t',rfl⟩:=ru
  cases rb with
  | non=>cases rv;exact⟨.int_none q t',.int_none q t',.int_none q t'⟩
  | bl z=>cases rv;exact⟨.int_bool q t' z,.int_bool q t' z,.int_bool q t' z⟩
  | int z=>obtain⟨t,rfl⟩:=rv;exact⟨.int_int q t' z t,.int_int q t' z t,.int_int q t' z t⟩
  | str z=>obtain⟨t,rfl⟩:=rv;exact⟨.int_str q t' z t,.int_str q t' z t,.int_str q t' z t⟩
  | _=>cases fb
 | str q=>
  obtain⟨t',rfl⟩:=ru
  cases rb with
  | non=>cases rv;exact⟨.str_none q t',.str_none q t',.str_none q t'⟩
  | bl z=>cases rv;exact⟨.str_bool q t' z,.str_bool q t' z,.str_bool q t' z⟩
  | int z=>obtain⟨t,rfl⟩:=rv;exact⟨.str_int q t' z t,.str_int q t' z t,.str_int q t' z t⟩
  | str z=>obtain⟨t,rfl⟩:=rv;exact⟨.str_str q t' z t,.str_str q t' z t,.str_str q t' z t⟩
  | _=>cases fb
 | _=>cases fa
theorem pv {A:Around} {b:D} {y:V} {v:Value} {p:Addr} {its:Array Value} {K:PySem.W.Frag} (ht:s.heap.IsTuple p its) (hu:A.units<cLine) (rb:aC K g α H b y) (rv:RelV y v) (fb:dj b=true) :
  (EqAt A s (.ref p) v false/\RcAt A s (.ref p) v false/\RcNeAt A s (.ref p) v true)/\(EqAt A s v (.ref p) false/\RcAt A s v (.ref p) false/\RcNeAt A s v (.ref p) true):=by
 cases rb with
 | non=>cases rv;exact⟨⟨.tuple_none ht hu,.tuple_none ht hu,.tuple_none ht hu⟩,.none_tuple ht hu,.none_tuple ht hu,.none_tuple ht hu⟩
 | bl z=>cases rv;exact⟨⟨.tuple_bool z ht hu,.tuple_bool z ht hu,.tuple_bool z ht hu⟩,.bool_tuple z ht hu,.bool_tuple z ht hu,.bool_tuple z ht hu⟩
 | int z=>obtain⟨t,rfl⟩:=rv;exact⟨⟨.tuple_int z t ht hu,.tuple_int z t ht hu,.tuple_int z t ht hu⟩,.int_tuple z t ht hu,.int_tuple z t ht hu,.int_tuple z t ht hu⟩
 | str z=>obtain⟨t,rfl⟩:=rv;exact⟨⟨.tuple_str z t ht hu,.tuple_str z t ht hu,.tuple_str z t ht hu⟩,.str_tuple z t ht hu,.str_tuple z t ht hu,.str_tuple z t ht hu⟩
 | _=>cases fb
theorem oG {A:Around} {b:D} {y:V} {v:Value} {p:Addr} {its:Array Value} {K:PySem.W.Frag} (ht:s.heap.IsList p its) (hu:A.units<cLine) (rb:aC K g α H b y) (rv:RelV y v) (fb:dj b=true) :
  (EqAt A s (.ref p) v false/\RcAt A s (.ref p) v false/\RcNeAt A s (.ref p) v true)/\(EqAt A s v (.ref p) false/\RcAt A s v (.ref p) false/\RcNeAt A s v (.ref p) true):=by
 cases rb with
 | non=>cases rv;exact⟨⟨.list_none ht hu,.list_none ht hu,.list_none ht hu⟩,.none_list ht hu,.none_list ht hu,.none_list ht hu⟩
 | bl z=>cases rv;exact⟨⟨.list_bool z ht hu,.list_bool z ht hu,.list_bool z ht hu⟩,.bool_list z ht hu,.bool_list z ht hu,.bool_list z ht hu⟩
 | int z=>obtain⟨t,rfl⟩:=rv;exact⟨⟨.list_int z t ht hu,.list_int z t ht hu,.list_int z t ht hu⟩,.int_list z t ht hu,.int_list z t ht hu,.int_list z t ht hu⟩
 | str z=>obtain⟨t,rfl⟩:=rv;exact⟨⟨.list_str z t ht hu,.list_str z t ht hu,.list_str z t ht hu⟩,.str_list z t ht hu,.str_list z t ht hu,.str_list z t ht hu⟩
 | _=>cases fb
theorem oA {A:Around} {k:Nat} {ds es:List D} {vs us:List V} {its jts:List Value} {c:Bool} (r:aM X.K g α H h)
  (ih:∀(a b:D) (x y:V) (u v:Value) (c:Bool),aC X.K g α H a x->aC X.K g α H b y->RelV x u->RelV y v->eqD k h a b=some c->EqAt A.in1 s u v c)
  (rs:ao X.K g α H ds vs) (rt:ao X.K g α H es us) (rv:Vals vs its) (ru:Vals us jts) (e:eqL (eqD k h) ds es=some c) :
  (∀j (h1:j<its.toArray.size) (h2:j<jts.toArray.size),EqAt A.in1 s its.toArray[j] jts.toArray[j] ((fun(j:Nat)=>(eqD k h (ds.getD j .non) (es.getD j .non)).getD false) j)) ∧
  c=((List.range (min its.toArray.size jts.toArray.size)).all (fun(j:Nat)=>(eqD k h (ds.getD j .non) (es.getD j .non)).getD false)&&its.toArray.size == jts.toArray.size):=by
 obtain⟨q1,q2⟩:=rE e
 have l1:its.toArray.size=ds.length:=by rw[List.size_toArray,<- rv.length,rs.length]
 have l2:jts.toArray.size=es.length:=by rw[List.size_toArray,<- ru.length,rt.length]
 refine⟨fun j h1 h2=>?_,by rw[l1,l2];exact q2⟩
 have hd:ds[j]?=some (ds.getD j .non):=by rw[List.getD_eq_getElem?_getD,List.getElem?_eq_getElem (by omega)];rfl
 have he:es[j]?=some (es.getD j .non):=by rw[List.getD_eq_getElem?_getD,List.getElem?_eq_getElem (by omega)];rfl
 obtain⟨b,hb⟩:=q1 j _ _ hd he
 obtain⟨x,hx,rx⟩:=rs.get hd
 obtain⟨y,hy,ry⟩:=rt.get he
 obtain⟨u,hu,rxu⟩:=rv.get hx
 obtain⟨v,hv,ryv⟩:=ru.get hy
 have eu:its.toArray[j]=u:=by
  have:=List.getElem?_eq_getElem (l:=its) (i:=j) (by simpa using h1)
  rw[hu] at this
  simpa using(Option.some.inj this).symm
 have ev:jts.toArray[j]=v:=by
  have:=List.getElem?_eq_getElem (l:=jts) (i:=j) (by simpa using h2)
  rw[hv] at this
  simpa using(Option.some.inj this).symm
 rw[eu,ev]
 show EqAt A.in1 s u v ((eqD k h (ds.getD j .non) (es.getD j .non)).getD false)
 rw[hb]
 exact ih _ _ _ _ _ _ _ rx ry rxu ryv hb
theorem rL (I:Inv X pins σ H s) {p:Addr} {vs us:List V} (a:SqT X.K H p vs) (b:SqL X.K H p us):False:=by
 obtain⟨its,r1,⟨o,e,c,_⟩,_⟩:=I.tuple a
 obtain⟨jts,r2,⟨o',n',e',c',_⟩,_⟩:=I.list b
 rw[e] at e';cases e';rw[c] at c';injection c' with z;exact absurd z (by decide)
theorem kJ (I:Inv X pins σ H s) (r:aM X.K g α H h):∀(k:Nat) (a b:D) (x:V) (c:Bool),aC X.K g α H a x->aC X.K g α H b x->eqD k h a b=some c->c=true
 | 0,_,_,_,_,_,_,e=>by cases e
 | k+1,a,b,x,c,ra,rb,e=>by
  unfold eqD at e
  cases ea:vw a h with
  | no=>simp[ea] at e
  | fl=>
   have fa:=i8 ra ea
   cases eb:vw b h with
   | no=>simp[ea,eb] at e
   | fl=>
    simp only[ea,eb] at e
    cases e
    have fb:=i8 rb eb
    cases ra with
    | non=>cases rb with
     | non=>rfl
    | bl z=>cases rb with
     | bl _=>simp[eqF]
    | int z=>cases rb with
     | int _=>simp[eqF]
    | str z=>cases rb with
     | str _=>simp[eqF]
    | _=>cases fa
   | tp ds=>obtain⟨p,vs,rfl,_⟩:=ja rb eb;cases ra<;>cases fa
   | ls ds=>obtain⟨p,vs,rfl,_⟩:=i6 r rb eb;cases ra<;>cases fa
  | tp da=>
   obtain⟨p,va,rfl,hp,rs⟩:=ja ra ea
   cases eb:vw b h with
   | no=>simp[ea,eb] at e
   | fl=>have fb:=i8 rb eb;cases rb<;>cases fb
   | tp db=>
    simp only[ea,eb] at e
    obtain⟨q,vb,hpq,hq,rt⟩:=ja rb eb
    cases hpq
    have:=I.lL hp hq
    subst this
    exact kM (fun a b x c=>kJ I r k a b x c) rs rt e
   | ls db=>
    obtain⟨q,vb,hpq,hq,rt⟩:=i6 r rb eb
    cases hpq
    exact(rL I hp hq).elim
  | ls da=>
   obtain⟨p,va,rfl,hp,rs⟩:=i6 r ra ea
   cases eb:vw b h with
   | no=>simp[ea,eb] at e
   | fl=>have fb:=i8 rb eb;cases rb<;>cases fb
   | tp db=>
    obtain⟨q,vb,hpq,hq,rt⟩:=ja rb eb
    cases hpq
    exact(rL I hq hp).elim
   | ls db=>
    simp only[ea,eb] at e
    obtain⟨q,vb,hpq,hq,rt⟩:=i6 r rb eb
    cases hpq
    have:=I.jW hp hq
    subst this
    rw[if_pos (by rw[rs.length,rt.length])] at e
    exact kM (fun a b x c=>kJ I r k a b x c) rs rt e
theorem qH (I:Inv X pins σ H s) (r:aM X.K g α H h):∀(k:Nat) (A:Around) (a b:D) (x y:V) (u v:Value) (c:Bool),A.units+k<cLine->aC X.K g α H a x->aC X.K g α H b y->RelV x u->RelV y v->eqD k h a b=some c →
  EqAt A s u v c/\RcAt A s u v c/\RcNeAt A s u v (!c)
 | 0,_,_,_,_,_,_,_,_,_,_,_,_,_,e=>by cases e
 | k+1,A,a,b,x,y,u,v,c,hu,ra,rb,ru,rv,e=>by
  have hu0:A.units<cLine:=by omega
  have ih:∀(a b:D) (x y:V) (u v:Value) (c:Bool),aC X.K g α H a x->aC X.K g α H b y->RelV x u->RelV y v->eqD k h a b=some c->EqAt A.in1 s u v c:=
   fun a b x y u v c h1 h2 h3 h4 h5=>(qH I r k A.in1 a b x y u v c (by show A.units+1+k<_;omega) h1 h2 h3 h4 h5).1
  have whole:=fun x ra rb=>kJ I r (k+1) a b x c ra rb e
  unfold eqD at e
  cases ea:vw a h with
  | no=>simp[ea] at e
  | fl=>
   have fa:=i8 ra ea
   cases eb:vw b h with
   | no=>simp[ea,eb] at e
   | fl=>simp only[ea,eb] at e;cases e;exact yO ra rb ru rv fa (i8 rb eb)
   | tp db=>
    simp only[ea,eb] at e;cases e
    obtain⟨q,vb,rfl,hq,rt⟩:=ja rb eb
    cases rv
    obtain⟨its,r1,ht,_⟩:=I.tuple hq
    exact(pv ht hu0 ra ru fa).2
   | ls db=>
    simp only[ea,eb] at e;cases e
    obtain⟨q,vb,rfl,hq,rt⟩:=i6 r rb eb
    cases rv
    obtain⟨its,r1,ht,_⟩:=I.list hq
    exact(oG ht.isList hu0 ra ru fa).2
  | tp da=>
   obtain⟨p,va,rfl,hp,rs⟩:=ja ra ea
   cases ru
   obtain⟨its,r1,ht,_⟩:=I.tuple hp
   cases eb:vw b h with
   | no=>simp[ea,eb] at e
   | fl=>simp only[ea,eb] at e;cases e;exact(pv ht hu0 rb rv (i8 rb eb)).1
   | tp db=>
    simp only[ea,eb] at e
    obtain⟨q,vb,rfl,hq,rt⟩:=ja rb eb
    cases rv
    obtain⟨jts,r2,ht2,_⟩:=I.tuple hq
    obtain⟨h1,h2⟩:=oA r ih rs rt r1 r2 e
    have rc:RcAt A s (.ref p) (.ref q) c:=by rw[h2];exact RcAt.tuples ht ht2 hu0 h1
    refine⟨?_,rc,by rw[h2];exact RcNeAt.tuples ht ht2 hu0 h1⟩
    by_cases hpq:p=q
    ·subst hpq
     rw[whole _ ra rb]
     exact .same _
    ·exact .of_refs hpq rc
   | ls db=>
    simp only[ea,eb] at e;cases e
    obtain⟨q,vb,rfl,hq,rt⟩:=i6 r rb eb
    cases rv
    obtain⟨jts,r2,ht2,_⟩:=I.list hq
    exact⟨.tuple_list ht ht2.isList hu0,.tuple_list ht ht2.isList hu0,.tuple_list ht ht2.isList hu0⟩
  | ls da=>
   obtain⟨p,va,rfl,hp,rs⟩:=i6 r ra ea
   cases ru
   obtain⟨its,r1,ht',_⟩:=I.list hp
   have ht:=ht'.isList
   cases eb:vw b h with
   | no=>simp[ea,eb] at e
   | fl=>simp only[ea,eb] at e;cases e;exact(oG ht hu0 rb rv (i8 rb eb)).1
   | tp db=>
    simp only[ea,eb] at e;cases e
    obtain⟨q,vb,rfl,hq,rt⟩:=ja rb eb
    cases rv
    obtain⟨jts,r2,ht2,_⟩:=I.tuple hq
    exact⟨.list_tuple ht ht2 hu0,.list_tuple ht ht2 hu0,.list_tuple ht ht2 hu0⟩
   | ls db=>
    simp only[ea,eb] at e
    obtain⟨q,vb,rfl,hq,rt⟩:=i6 r rb eb
    cases rv
    obtain⟨jts,r2,ht2',_⟩:=I.list hq
    have ht2:=ht2'.isList
    have l1:its.toArray.size=da.length:=by rw[List.size_toArray,<- r1.length,rs.length]
    have l2:jts.toArray.size=db.length:=by rw[List.size_toArray,<- r2.length,rt.length]
    have fin:RcAt A s (.ref p) (.ref q) c/\RcNeAt A s (.ref p) (.ref q) (!c):=by
     by_cases hl:da.length=db.length
     ·rw[if_pos hl] at e
      obtain⟨h1,h2⟩:=oA r ih rs rt r1 r2 e
      have hsz:its.toArray.size=jts.toArray.size:=by omega
      have h2':c=(List.range its.toArray.size).all (fun(j:Nat)=>(eqD k h (da.getD j .non) (db.getD j .non)).getD false):=by
       rw[h2,<- hsz,Nat.min_self];simp
      exact⟨by rw[h2'];exact RcAt.lists ht ht2 hsz hu0 h1,by rw[h2'];exact RcNeAt.lists ht ht2 hsz hu0 h1⟩
     ·rw[if_neg hl] at e
      have e2:c=false:=(Option.some.inj e).symm
      have hsz:(its.toArray.size != jts.toArray.size)=true:=by
       rw[l1,l2];simpa using hl
      rw[e2]
      exact⟨RcAt.lists_lengths ht ht2 hsz hu0,RcNeAt.lists_lengths ht ht2 hsz hu0⟩
    refine⟨?_,fin⟩
    by_cases hpq:p=q
    ·subst hpq
     rw[whole _ ra rb]
     exact .same _
    ·exact .of_refs hpq fin.1
noncomputable abbrev eqN:Nat:=12
noncomputable def dEq:D->D->Hh->R D:=fun a b h=>match eqD eqN h a b with
 | some c=>.ok (.bl c) h
 | none=>.bad
noncomputable def dNe:D->D->Hh->R D:=fun a b h=>match eqD eqN h a b with
 | some c=>.ok (.bl (!c)) h
 | none=>.bad
noncomputable def y1 (K:PySem.W.Frag) (g:GG) (neg:Bool):R2:=fun x y H Q=>∃α h a b c,aM K g α H h/\aC K g α H a x/\aC K g α H b y/\eqD eqN h a b=some c/\Q (.bl (if neg then !c else c)) H
theorem gv (hu:X.A.units+64<cLine):OpR X (compareOp .Eq) (y1 X.K g false):=by
 intro pins s σ H x y v u Q I rx ry ⟨α,h,a,b,c,r,ra,rb,e,q⟩
 exact(qH I r eqN X.A a b x y v u c (by show X.A.units+12<_;omega) ra rb rx ry e).2.1 _ _ _ _ ⟨.bl c,H,I,rfl,q⟩
theorem iS (hu:X.A.units+64<cLine):OpR X (compareOp .NotEq) (y1 X.K g true):=by
 intro pins s σ H x y v u Q I rx ry ⟨α,h,a,b,c,r,ra,rb,e,q⟩
 exact(qH I r eqN X.A a b x y v u c (by show X.A.units+12<_;omega) ra rb rx ry e).2.2 _ _ _ _ ⟨.bl (!c),H,I,rfl,q⟩
theorem kE {ε:EE} {K:PySem.W.Frag}:cG K g ε dEq (y1 K g false):=by
 intro α H h a b x y Q r ra rb w
 unfold dEq at w
 cases e:eqD eqN h a b with
 | none=>simp only[e] at w;exact w.elim
 | some c=>simp only[e] at w;exact⟨α,h,a,b,c,r,ra,rb,e,aB.now w r (.bl _)⟩
theorem l7 {ε:EE} {K:PySem.W.Frag}:cG K g ε dNe (y1 K g true):=by
 intro α H h a b x y Q r ra rb w
 unfold dNe at w
 cases e:eqD eqN h a b with
 | none=>simp only[e] at w;exact w.elim
 | some c=>simp only[e] at w;exact⟨α,h,a,b,c,r,ra,rb,e,aB.now w r (.bl _)⟩
end
noncomputable def bj (f:D->Option PyData):List D->Option (List PyData)
 | []=>some []
 | d::ds=>match f d,bj f ds with
  | some p,some ps=>some (p::ps)
  | _,_=>none
noncomputable def toPy:Nat->Hh->D->Option PyData
 | 0,_,_=>none
 | k+1,h,d=>match d with
  | .non=>some .none
  | .bl b=>some (.bool b)
  | .int i=>if sml i=true then some (.int i) else none
  | .str x=>if x.cps.toList.all (fun c=>decide (c<16 ^ 8))=true then some (.str x) else none
  | .tup ds=>(bj (toPy k h) ds).map .tuple
  | .frl ds=>(bj (toPy k h) ds).map .list
  | .ref n=>match av h n with
   | some ds=>(bj (toPy k h) ds).map .list
   | none=>none
  | _=>none
structure Cu (k:Nat) (d:PyData):Prop where
 sh:d.showable=true
 nd:d.hasDict=false
 dp:d.depth<=k
 lv:d.leavesShort 1921=true
structure Dg (k:Nat) (ds:List PyData):Prop where
 sh:PyData.showableAll ds=true
 nd:PyData.hasDictAll ds=false
 dp:PyData.depthAll ds<=k
 lv:PyData.leavesShortAll 1921 ds=true
section
variable {K:PySem.W.Frag} {g:GG} {α:List Addr} {H:Hp} {h:Hh}
theorem gK {f:D->Option PyData} {k:Nat} (hf:∀d x p,aC K g α H d x->f d=some p->RdD K H x p/\Cu k p):∀{ds:List D} {vs:List V} {ps:List PyData},ao K g α H ds vs->bj f ds=some ps →
  Dg k ps/\vs.length=ps.length/\∀(i:Nat) x d,vs[i]?=some x->ps[i]?=some d->RdD K H x d
 | _,_,_,.nil,e=>by
  cases e
  exact⟨⟨by simp[PyData.showableAll],by simp[PyData.hasDictAll],by simp[PyData.depthAll],by simp[PyData.leavesShortAll]⟩,rfl,fun i x d h=>by simp at h⟩
 | _,_,_,.cons r t,e=>by
  unfold bj at e
  split at e
  ·rename_i p ps h1 h2
   cases e
   obtain⟨a1,a2⟩:=hf _ _ _ r h1
   obtain⟨b1,b2,b3⟩:=gK hf t h2
   refine⟨⟨by rw[PyData.showableAll,a2.sh,b1.sh];rfl,by rw[PyData.hasDictAll,a2.nd,b1.nd];rfl,by rw[PyData.depthAll];exact Nat.max_le.mpr ⟨a2.dp,b1.dp⟩,by rw[PyData.leavesShortAll,a2.lv,b1.lv];rfl⟩,by simp[b2],fun i x d hx hd=>?_⟩
   cases i with
   | zero=>simp at hx hd;subst hx hd;exact a1
   | succ i=>exact b3 i x d (by simpa using hx) (by simpa using hd)
  ·cases e
theorem jM (r:aM K g α H h):∀(k:Nat) (d:D) (x:V) (p:PyData),aC K g α H d x->toPy k h d=some p->RdD K H x p/\Cu k p
 | 0,_,_,_,_,e=>by cases e
 | k+1,d,x,p,rd,e=>by
  unfold toPy at e
  cases rd with
  | non=>cases e;exact⟨.non,by simp[PyData.showable],by simp[PyData.hasDict],by simp[PyData.depth],by simp[PyData.leavesShort]⟩
  | bl b=>cases e;exact⟨.bl b,by simp[PyData.showable],by simp[PyData.hasDict],by simp[PyData.depth],by simp[PyData.leavesShort]⟩
  | int i=>
   simp only at e
   split at e
   ·rename_i hs
    cases e
    have hl:i.natAbs.log2<1920:=Nat.lt_trans (fV hs) (by decide)
    exact⟨.int i,by simp[PyData.showable,hl],by simp[PyData.hasDict],by simp[PyData.depth],by simp only[PyData.leavesShort,decide_eq_true_eq];exact int_text_len_1921 hl⟩
   ·cases e
  | str z=>
   simp only at e
   split at e
   ·rename_i hs
    cases e
    exact⟨.str z,by simp[PyData.showable],by simp[PyData.hasDict],by simp[PyData.depth],by simpa only[PyData.leavesShort] using hs⟩
   ·cases e
  | tup hp rs=>
   simp only at e
   cases e1:bj (toPy k h) _ with
   | none=>rw[e1] at e;cases e
   | some ps=>
    rw[e1] at e
    cases e
    obtain⟨b1,b2,b3⟩:=gK (fun d x p=>jM r k d x p) rs e1
    exact⟨.tup (SqT.of hp) b2 b3,by rw[PyData.showable];exact b1.sh,by rw[PyData.hasDict];exact b1.nd,by rw[PyData.depth];exact Nat.succ_le_succ b1.dp,by rw[PyData.leavesShort];exact b1.lv⟩
  | @ref n p hp=>
   simp only at e
   cases el:av h n with
   | none=>rw[el] at e;cases e
   | some ds=>
    rw[el] at e
    simp only at e
    obtain⟨vs,hv,rs⟩:=r.lst el hp
    cases e1:bj (toPy k h) ds with
    | none=>rw[e1] at e;cases e
    | some ps=>
     rw[e1] at e
     cases e
     obtain⟨b1,b2,b3⟩:=gK (fun d x p=>jM r k d x p) rs e1
     exact⟨.lst (SqL.of hv) b2 b3,by rw[PyData.showable];exact b1.sh,by rw[PyData.hasDict];exact b1.nd,by rw[PyData.depth];exact Nat.succ_le_succ b1.dp,by rw[PyData.leavesShort];exact b1.lv⟩
  | frl hp rs=>
   simp only at e
   cases e1:bj (toPy k h) _ with
   | none=>rw[e1] at e;cases e
   | some ps=>
    rw[e1] at e
    cases e
    obtain⟨b1,b2,b3⟩:=gK (fun d x p=>jM r k d x p) rs e1
    exact⟨.lst hp.sq b2 b3,by rw[PyData.showable];exact b1.sh,by rw[PyData.hasDict];exact b1.nd,by rw[PyData.depth];exact Nat.succ_le_succ b1.dp,by rw[PyData.leavesShort];exact b1.lv⟩
  | fn _=>cases e
  | edic _=>cases e
  | exc _ _ _ _ _=>cases e
  | scr _ _=>cases e
end
noncomputable def m_ (d:D) (h:Hh):R D:=match toPy 12 h d with
 | some p=>if p.bulk<=8000 then .ok (.str p.shown) h else .bad
 | none=>.bad
noncomputable def pe:List D->Hh->R D:=fun ds h=>match ds with
 | [.int i]=>if sml i=true then .ok (.str (toString i)) h else .bad
 | [.tup ds]=>m_ (.tup ds) h
 | [.ref n]=>m_ (.ref n) h
 | [.frl ds]=>m_ (.frl ds) h
 | _=>.bad
section
variable {X:Cx} {K:PySem.W.Frag} {g:GG} {ε:EE}
noncomputable abbrev m6 (K:PySem.W.Frag):List V->Hp->VK->Prop:=fun vs H Q=>(∃p d,vs=[.ref p]/\RdD K H (.ref p) d/\d.showable=true/\d.hasDict=false/\d.depth<=60/\d.shown.length<=sizeLine/\Q (.str d.shown) H)\/∃i,vs=[.int i]/\i.natAbs.log2<1920/\Q (.str (toString i)) H
theorem yp (hg:X.A.guards=some []) (hu:X.A.units+64<cLine):aR X (.builtin "repr") (m6 X.K):=aR.or (uc hg hu) qj
theorem yE:g6 K g ε pe (m6 K):=by
 intro α H h a x Q r ra w
 unfold pe at w
 cases ra with
 | nil=>exact w.elim
 | cons rd rr=>
  cases rr with
  | cons _ _=>cases rd<;>exact w.elim
  | nil=>
   have gen:∀{d:D} {v:V},aC K g α H d v->(∃p,v=.ref p)->WQ K g ε α H (m_ d h) (aB K g α H Q)->m6 K [v] H Q:=by
    intro d v rd ⟨p,hp⟩ w
    subst hp
    unfold m_ at w
    cases e:toPy 12 h d with
    | none=>simp only[e] at w;exact w.elim
    | some pd=>
     simp only[e] at w
     obtain⟨hb,w⟩:=WQ.bI w
     obtain⟨q1,q2⟩:=jM r 12 d _ pd rd e
     have:=PyData.shown_le_bulk 1921 (by decide) pd q2.lv
     exact .inl ⟨p,pd,rfl,q1,q2.sh,q2.nd,Nat.le_trans q2.dp (by decide),by rw[sizeLine_eq];omega,aB.now w r (.str _)⟩
   cases rd with
   | int i=>
    obtain⟨hs,w⟩:=WQ.bI w
    exact .inr ⟨i,rfl,Nat.lt_trans (fV hs) (by decide),aB.now w r (.str _)⟩
   | tup hp rs=>exact gen (.tup hp rs) ⟨_,rfl⟩ w
   | ref hp=>exact gen (.ref hp) ⟨_,rfl⟩ w
   | frl hp rs=>exact gen (.frl hp rs) ⟨_,rfl⟩ w
   | _=>exact w.elim
noncomputable def bC:List D->Hh->R D:=fun ds h=>match ds with
 | [.tup ds]=>.ok (.int ds.length) h
 | [.frl ds]=>.ok (.int ds.length) h
 | [.scr ds]=>.ok (.int ds.length) h
 | [.str x]=>if x.length<=1000000 then .ok (.int x.length) h else .bad
 | [.ref n]=>match h[n]? with
  | some (.lst ds)=>.ok (.int ds.length) h
  | some (.set k)=>.ok (.int k.length) h
  | _=>.bad
 | _=>.bad
noncomputable abbrev zt (K:PySem.W.Frag):List V->Hp->VK->Prop:=fun xs H Q=>(∃p ys,xs=[.ref p]/\(SqL K H p ys\/SqT K H p ys)/\Q (.int ys.length) H)\/(∃p S n,xs=[.ref p]/\H p=some (.set S n)/\Q (.int n) H)\/∃z,xs=[.str z]/\z.length<=sizeLine/\Q (.int z.length) H
theorem cu:aR X (.builtin "len") (zt X.K):=aR.or nv (aR.or lE nU)
theorem mO {α:List Addr} {H:Hp} {h:Hh} {ds:List D} {vs:List V} {f:List D->Hh->R D} {Q:VK} (hf:∀d e r h,f (d::e::r) h=.bad) (hf0:∀h,f [] h=.bad) (rs:ao K g α H ds vs) (w:WQ K g ε α H (f ds h) (aB K g α H Q)):∃d v,ds=[d]/\vs=[v]/\aC K g α H d v:=by
 cases rs with
 | nil=>rw[hf0] at w;exact w.elim
 | cons r t=>
  cases t with
  | nil=>exact⟨_,_,rfl,rfl,r⟩
  | cons _ _=>rw[hf] at w;exact w.elim
theorem cw:g6 K g ε bC (zt K):=by
 intro α H h a x Q r ra w
 obtain⟨d,v,rfl,rfl,rd⟩:=mO (f:=bC) (fun d _ _ _=>by cases d<;>rfl) (fun _=>rfl) ra w
 unfold bC at w
 cases rd with
 | tup hp rs=>exact .inl ⟨_,_,rfl,.inr (SqT.of hp),aB.now w r (by rw[<- rs.length];exact .int _)⟩
 | frl hp rs=>exact .inl ⟨_,_,rfl,.inl hp.sq,aB.now w r (by rw[<- rs.length];exact .int _)⟩
 | scr hp rs=>exact .inl ⟨_,_,rfl,.inl hp.sq,aB.now w r (by rw[<- rs.length];exact .int _)⟩
 | str z=>
  obtain⟨hl,w⟩:=WQ.bI w
  exact .inr (.inr ⟨z,rfl,dQ hl,aB.now w r (.int _)⟩)
 | @ref n p hp=>
  simp only at w
  cases e:h[n]? with
  | none=>rw[e] at w;exact w.elim
  | some o=>
   rw[e] at w
   have q:=r.here n p o hp e
   cases o with
   | lst ds=>obtain⟨vs,hv,rs⟩:=q;exact .inl ⟨p,vs,rfl,.inl (SqL.of hv),aB.now w r (by rw[<- rs.length];exact .int _)⟩
   | set k=>exact .inr (.inl ⟨p,_,_,rfl,q,aB.now w r (.int _)⟩)
   | dic k=>exact w.elim
   | dit k=>exact w.elim
 | _=>exact w.elim
noncomputable def eN:List D->Hh->R D:=fun ds h=>match ds with
 | [.tup ds]=>.ok (.tup ds) h
 | [.frl ds]=>.ok (.tup ds) h
 | [.ref n]=>match av h n with
  | some ds=>.ok (.tup ds) h
  | none=>.bad
 | _=>.bad
theorem j9:g6 K g ε eN (fun xs H Q=>∃p ys,xs=[.ref p]/\((SqL K H p ys/\∀l,H l=none->Q (.ref l) (upd H l (.tup ys)))\/(SqT K H p ys/\Q (.ref p) H))):=by
 intro α H h a x Q r ra w
 obtain⟨d,v,rfl,rfl,rd⟩:=mO (f:=eN) (fun d _ _ _=>by cases d<;>rfl) (fun _=>rfl) ra w
 unfold eN at w
 cases rd with
 | tup hp rs=>exact⟨_,_,rfl,.inr ⟨SqT.of hp,aB.now w r (.tup hp rs)⟩⟩
 | frl hp rs=>exact⟨_,_,rfl,.inl ⟨hp.sq,fun l hl=>aB.tup w r rs hl⟩⟩
 | @ref n p hp=>
  simp only at w
  cases e:av h n with
  | none=>rw[e] at w;exact w.elim
  | some ds=>
   rw[e] at w
   obtain⟨vs,hv,rs⟩:=r.lst e hp
   exact⟨p,vs,rfl,.inl ⟨SqL.of hv,fun l hl=>aB.tup w r rs hl⟩⟩
 | _=>exact w.elim
noncomputable def intsOf:List D->Option (List Int)
 | []=>some []
 | .int i::ds=>(intsOf ds).map (i::·)
 | _::_=>none
theorem eY:∀{ds:List D} {ns:List Int},intsOf ds=some ns->ds=ns.map D.int
 | [],ns,e=>by cases e;rfl
 | .int i::ds,ns,e=>by
  unfold intsOf at e
  cases e1:intsOf ds with
  | none=>rw[e1] at e;cases e
  | some ms=>rw[e1] at e;cases e;rw[eY e1];rfl
 | .non::_,_,e=>by cases e
 | .bl _::_,_,e=>by cases e
 | .str _::_,_,e=>by cases e
 | .tup _::_,_,e=>by cases e
 | .frl _::_,_,e=>by cases e
 | .ref _::_,_,e=>by cases e
 | .fn _::_,_,e=>by cases e
 | .edic::_,_,e=>by cases e
 | .exc _ _::_,_,e=>by cases e
 | .scr _::_,_,e=>by cases e
theorem kA:∀(ns:List Int),intsOf (ns.map D.int)=some ns
 | []=>rfl
 | n::r=>by rw[List.map_cons,intsOf,kA r];rfl
noncomputable def oO:List D->Hh->R D:=fun ds h=>match ds with
 | [.tup ds]=>match intsOf ds with
  | some ns=>if ns.length<=4000 then .ok (.ref h.length) (h++[.set (unl ns)]) else .bad
  | none=>.bad
 | _=>.bad
theorem BA:g6 K g ε oO (fun vs H Q=>∃p ns,vs=[.ref p]/\SqT K H p (ns.map V.int)/\ns.length+1<scanBound/\∀l,H l=none->Q (.ref l) (upd H l (.set (fun k=>(unl ns).any (· == k)) (unl ns).length))):=by
 intro α H h a x Q r ra w
 obtain⟨d,v,rfl,rfl,rd⟩:=mO (f:=oO) (fun d _ _ _=>by cases d<;>rfl) (fun _=>rfl) ra w
 unfold oO at w
 cases rd with
 | tup hp rs=>
  simp only at w
  cases e:intsOf _ with
  | none=>rw[e] at w;exact w.elim
  | some ns=>
   rw[e] at w
   obtain⟨hl,w⟩:=WQ.bI w
   have e2:=eY e
   subst e2
   have e3:=rs.uB
   subst e3
   refine⟨_,ns,rfl,SqT.of hp,by show ns.length+1<4096;omega,fun l hn=>?_⟩
   refine(show aB K g α H Q _ _ from w) _ _ (α++[l]) (Ext.push hn) (r.push hn aJ) (.ref ?_)
   rw[<- r.len,List.getElem?_append_right (Nat.le_refl _)];simp
 | _=>exact w.elim
noncomputable def xl:List D->Hh->R D:=fun ds h=>match ds with
 | [.int i,.int j]=>.ok (.int (if j > i then j else i)) h
 | _=>.bad
theorem wq {α:List Addr} {H:Hp} {h:Hh} {ds:List D} {vs:List V} {t:Int->Int->Int} {Q:VK} (r:aM K g α H h) (rs:ao K g α H ds vs) (w:WQ K g ε α H (match ds with | [.int i,.int j]=>.ok (.int (t i j)) h | _=>.bad) (aB K g α H Q)):∃i j,vs=[.int i,.int j]/\Q (.int (t i j)) H:=by
 split at w
 ·cases rs with
  | cons r1 t1=>
   cases r1
   cases t1 with
   | cons r2 t2=>
    cases r2
    cases t2
    exact⟨_,_,rfl,aB.now w r (.int _)⟩
 ·exact w.elim
theorem yM:g6 K g ε xl (fun xs H Q=>∃i j,xs=[.int i,.int j]/\Q (.int (if j > i then j else i)) H):=fun α H h a x Q r ra w=>wq (t:=fun i j=>if j > i then j else i) r ra w
noncomputable def wj:List D->Hh->R D:=fun ds h=>match ds with
 | [.int i]=>.ok (.int i) h
 | [.bl b]=>.ok (.int (if b then 1 else 0)) h
 | _=>.bad
theorem zW:g6 K g ε wj (fun xs H Q=>(∃i,xs=[.int i]/\Q (.int i) H)\/∃k,xs=[.bl k]/\Q (.int (if k then 1 else 0)) H):=by
 intro α H h a x Q r ra w
 obtain⟨d,v,rfl,rfl,rd⟩:=mO (f:=wj) (fun d _ _ _=>by cases d<;>rfl) (fun _=>rfl) ra w
 unfold wj at w
 cases rd with
 | int i=>exact .inl ⟨i,rfl,aB.now w r (.int _)⟩
 | bl b=>exact .inr ⟨b,rfl,aB.now w r (.int _)⟩
 | _=>exact w.elim
noncomputable def tyD (d:D) (h:Hh):Option String:=match d with
 | .non=>some "NoneType"
 | .bl _=>some "bool"
 | .int _=>some "int"
 | .str _=>some "str"
 | .tup _=>some "tuple"
 | .frl _=>some "list"
 | .edic=>some "dict"
 | .ref n=>match h[n]? with
  | some (.lst _)=>some "list"
  | some (.dic _)=>some "dict"
  | some (.dit _)=>some "dict"
  | _=>none
 | _=>none
noncomputable def rW (t n:String):Option Bool:=
 if n="int" then (if t="int" then some true else if t="bool" then some true else if t="NoneType" \/ t="str" \/ t="tuple" \/ t="list" \/ t="dict" then some false else none)
 else if n="bool" \/ n="tuple" \/ n="list" \/ n="str" then (if t=n then some true else if t="int" \/ t="bool" \/ t="NoneType" \/ t="str" \/ t="tuple" \/ t="list" \/ t="dict" then some false else none)
 else none
noncomputable def fZ (n:String):D->Hh->R D:=fun d h=>match tyD d h with
 | some t=>match rW t n with
  | some b=>.ok (.bl b) h
  | none=>.bad
 | none=>.bad
theorem sE {α:List Addr} {H:Hp} {h:Hh} {d:D} {v:V} {t:String} (r:aM K g α H h) (rd:aC K g α H d v) (e:tyD d h=some t):gy K H v (.type t):=by
 unfold tyD at e
 cases rd with
 | non=>cases e;exact .non
 | bl b=>cases e;exact .bl b
 | int i=>cases e;exact .int i
 | str i=>cases e;exact .str i
 | tup hp rs=>cases e;exact .tup hp
 | frl hp rs=>cases e;obtain⟨o,hp⟩:=hp;exact .frz hp
 | edic hp=>cases e;exact .d_ hp
 | @ref n p hp=>
  simp only at e
  cases eo:h[n]? with
  | none=>rw[eo] at e;cases e
  | some o=>
   rw[eo] at e
   have q:=r.here n p o hp eo
   cases o with
   | lst ds=>cases e;obtain⟨vs,hv,_⟩:=q;exact .lst hv
   | set k=>cases e
   | dic k=>cases e;obtain⟨vs,hv,_⟩:=q;exact .dK hv
   | dit k=>cases e;obtain⟨vs,hv,_⟩:=q;exact .dT hv
 | _=>cases e
theorem yh (K:PySem.W.Frag):PySem.W.kitOne K (.type "int") (.type "int")=some true/\PySem.W.kitOne K (.type "bool") (.type "int")=some true/\PySem.W.kitOne K (.type "NoneType") (.type "int")=some false/\PySem.W.kitOne K (.type "str") (.type "int")=some false
  /\ PySem.W.kitOne K (.type "tuple") (.type "int")=some false/\PySem.W.kitOne K (.type "list") (.type "int")=some false/\PySem.W.kitOne K (.type "dict") (.type "int")=some false:=⟨rfl,rfl,rfl,rfl,rfl,rfl,rfl⟩
theorem wg (K:PySem.W.Frag):PySem.W.kitOne K (.type "int") (.type "bool")=some false/\PySem.W.kitOne K (.type "bool") (.type "bool")=some true/\PySem.W.kitOne K (.type "NoneType") (.type "bool")=some false/\PySem.W.kitOne K (.type "str") (.type "bool")=some false
  /\ PySem.W.kitOne K (.type "tuple") (.type "bool")=some false/\PySem.W.kitOne K (.type "list") (.type "bool")=some false/\PySem.W.kitOne K (.type "dict") (.type "bool")=some false:=⟨rfl,rfl,rfl,rfl,rfl,rfl,rfl⟩
theorem kit_tuple (K:PySem.W.Frag):PySem.W.kitOne K (.type "int") (.type "tuple")=some false/\PySem.W.kitOne K (.type "bool") (.type "tuple")=some false/\PySem.W.kitOne K (.type "NoneType") (.type "tuple")=some false/\PySem.W.kitOne K (.type "str") (.type "tuple")=some false
  /\ PySem.W.kitOne K (.type "tuple") (.type "tuple")=some true/\PySem.W.kitOne K (.type "list") (.type "tuple")=some false/\PySem.W.kitOne K (.type "dict") (.type "tuple")=some false:=⟨rfl,rfl,rfl,rfl,rfl,rfl,rfl⟩
theorem vM (K:PySem.W.Frag):PySem.W.kitOne K (.type "int") (.type "list")=some false/\PySem.W.kitOne K (.type "bool") (.type "list")=some false/\PySem.W.kitOne K (.type "NoneType") (.type "list")=some false/\PySem.W.kitOne K (.type "str") (.type "list")=some false
  /\ PySem.W.kitOne K (.type "tuple") (.type "list")=some false/\PySem.W.kitOne K (.type "list") (.type "list")=some true/\PySem.W.kitOne K (.type "dict") (.type "list")=some false:=⟨rfl,rfl,rfl,rfl,rfl,rfl,rfl⟩
theorem xV (K:PySem.W.Frag):PySem.W.kitOne K (.type "int") (.type "str")=some false/\PySem.W.kitOne K (.type "bool") (.type "str")=some false/\PySem.W.kitOne K (.type "NoneType") (.type "str")=some false/\PySem.W.kitOne K (.type "str") (.type "str")=some true
  /\ PySem.W.kitOne K (.type "tuple") (.type "str")=some false/\PySem.W.kitOne K (.type "list") (.type "str")=some false/\PySem.W.kitOne K (.type "dict") (.type "str")=some false:=⟨rfl,rfl,rfl,rfl,rfl,rfl,rfl⟩
theorem Bv {t n:String} {b:Bool} (e:rW t n=some b):PySem.W.kitOne K (.type t) (.type n)=some b:=by
 unfold rW at e
 obtain⟨a1,a2,a3,a4,a5,a6,a7⟩:=yh K
 obtain⟨b1,b2,b3,b4,b5,b6,b7⟩:=wg K
 obtain⟨c1,c2,c3,c4,c5,c6,c7⟩:=kit_tuple K
 obtain⟨d1,d2,d3,d4,d5,d6,d7⟩:=vM K
 obtain⟨e1,e2,e3,e4,e5,e6,e7⟩:=xV K
 split at e
 ·rename_i hn;subst hn
  split at e
  ·rename_i h;subst h;cases e;exact a1
  ·split at e
   ·rename_i h;subst h;cases e;exact a2
   ·split at e
    ·rename_i h;cases e;rcases h with rfl | rfl | rfl | rfl | rfl<;>assumption
    ·cases e
 ·split at e
  ·rename_i hn
   split at e
   ·rename_i h;subst h;cases e;rcases hn with rfl | rfl | rfl | rfl<;>assumption
   ·rename_i hne
    split at e
    ·rename_i h;cases e;rcases hn with rfl | rfl | rfl | rfl<;>rcases h with rfl | rfl | rfl | rfl | rfl | rfl | rfl<;>first | assumption | exact absurd rfl hne
    ·cases e
  ·cases e
theorem mZ {e:Expr} {me:ME} {n:String} {x:Str} {p1 p2 pos:Pos} (he:PE X e (tM X.K g ε me)) (hg:Gl X "isinstance") (hm:X.mg "isinstance" = none) (hg2:Gl X x) (hm2:X.mg x=none) (hb:bootBuiltins x=some (.type n)) (hn:x≠"__name__" := by decide) (hd:(x == ("__debug__" : Str))=false:=by decide)
  (hs1:starEach [e,.Name x p2] X.env=(false,eval e X.env)::starEach [.Name x p2] X.env:=by rfl) (hs2:starEach [.Name x p2] X.env=[(false,eval (.Name x p2) X.env)]:=by rfl) (hpl:(backTo pos (starEach [.Name x p2] X.env)).any (·.1)=false:=by rfl) :
  PE X (.Call (.Name "isinstance" p1) [e,.Name x p2] [] pos) (tM X.K g ε (cUn (fZ n) me)):=
 PE.imp (gG oR hg hm PyProof.Rows.boot_isinstance (cU he (cU (rG (v:=.ty n) hg2 hm2 hb rfl hn hd) gw hs2) hs1) (by decide) (by decide) hs1 hpl) fun σ H Q ⟨α,env,h,s,w⟩=>tM.use s w.bind fun d1 h1 v1 H1 α1 e1 s1 r1 w1=>by
  unfold fZ at w1
  cases et:tyD d1 h1 with
  | none=>simp only[et] at w1;exact w1.elim
  | some t=>
   simp only[et] at w1
   cases es:rW t n with
   | none=>simp only[es] at w1;exact w1.elim
   | some b=>
    simp only[es] at w1
    exact⟨v1,.type t,n,b,rfl,sE s1.heap r1 et,Bv es,aB.now (aB.ext e1 w1) s1.heap (.bl b)⟩
end
section
variable {X:Cx} {K:PySem.W.Frag} {g:GG} {ε:EE}
noncomputable def hZ:D->Hh->R Bool:=fun d h=>match d with
 | .non=>.ok false h
 | .bl b=>.ok b h
 | .int i=>.ok (i != 0) h
 | .tup ds=>.ok (!ds.isEmpty) h
 | .frl ds=>.ok (!ds.isEmpty) h
 | .ref n=>match av h n with
  | some ds=>.ok (!ds.isEmpty) h
  | none=>.bad
 | _=>.bad
theorem ao.isEmpty {α:List Addr} {H:Hp} {ds:List D} {vs:List V} (r:ao K g α H ds vs):ds.isEmpty=vs.isEmpty:=by cases r<;>rfl
theorem gz:B4 K g ε hZ (fun x H Q=>∃k,yD K x H k/\Q k H):=by
 intro α H h a x Q r ra w
 unfold hZ at w
 have now:∀{b:Bool},iZ K g α H Q b h->Q b H:=fun p=>p H α Ext.refl r
 cases ra with
 | non=>exact⟨false,rfl,now w⟩
 | bl b=>exact⟨b,rfl,now w⟩
 | int i=>exact⟨_,rfl,now w⟩
 | tup hp rs=>exact⟨_,.inr (.inl ⟨_,SqT.of hp,rfl⟩),now (by rw[<- rs.isEmpty];exact w)⟩
 | frl hp rs=>exact⟨_,.inl ⟨_,hp.sq,rfl⟩,now (by rw[<- rs.isEmpty];exact w)⟩
 | @ref n p hp=>
  simp only at w
  cases e:av h n with
  | none=>rw[e] at w;exact w.elim
  | some ds=>
   rw[e] at w
   obtain⟨vs,hv,rs⟩:=r.lst e hp
   exact⟨_,.inl ⟨vs,SqL.of hv,rfl⟩,now (by rw[<- rs.isEmpty];exact w)⟩
 | _=>exact w.elim
theorem wm {α:List Addr} {H:Hp} {d:D} {v:V} (r:aC K g α H d v) (f:dj d=true):gp v=true:=by
 cases r<;>first | rfl | cases f
theorem Cc {α:List Addr} {H:Hp} {d e:D} {v u:V} (r:aC K g α H d v) (q:aC K g α H e u) (f:dj d=true) (f':dj e=true):eqF d e=eqV v u:=by
 cases r<;>first | (cases f;done) | (cases q<;>first | rfl | cases f')
theorem zJ {α:List Addr} {H:Hp}:∀{ds:List D} {vs:List V},ao K g α H ds vs->ds.all dj=true->vs.all gp=true
 | _,_,.nil,_=>rfl
 | _,_,.cons r t,f=>by
  rw[List.all_cons,Bool.and_eq_true] at f ⊢
  exact⟨wm r f.1,zJ t f.2⟩
theorem zF {α:List Addr} {H:Hp} {e:D} {u:V} (q:aC K g α H e u) (f':dj e=true):∀{ds:List D} {vs:List V},ao K g α H ds vs->ds.all dj=true->(ds.any fun d=>eqF d e)=vs.any fun y=>eqV y u
 | _,_,.nil,_=>rfl
 | _,_,.cons r t,f=>by
  rw[List.all_cons,Bool.and_eq_true] at f
  rw[List.any_cons,List.any_cons,Cc r q f.1 f',zF q f' t f.2]
noncomputable def dIn (neg:Bool):D->D->Hh->R D:=fun a b h=>match kH b h with
 | some ds=>if dj a=true/\ds.all dj=true then .ok (.bl (if neg then !(ds.any fun d=>eqF d a) else ds.any fun d=>eqF d a)) h else .bad
 | none=>.bad
theorem Di {neg:Bool}:cG K g ε (dIn neg) (rIn K neg):=by
 intro α H h a b x y Q r ra rb w
 unfold dIn at w
 cases e:kH b h with
 | none=>rw[e] at w;exact w.elim
 | some ds=>
  rw[e] at w
  obtain⟨p,vs,rfl,hq,rs⟩:=rP r rb e
  obtain⟨⟨f1,f2⟩,w⟩:=WQ.bI w
  refine⟨p,vs,rfl,hq,wm ra f1,zJ rs f2,?_⟩
  have e2:(ds.any fun d=>eqF d a)=inV x vs:=zF ra f1 rs f2
  rw[<- e2]
  exact aB.now w r (.bl _)
noncomputable def sW:List D->Option (List D)
 | [.int j]=>if j.natAbs<=1000000 then some (bL 0 j.toNat) else none
 | [.int i,.int j]=>if (i.natAbs<=1000000/\j.natAbs<=1000000)/\(j - i).toNat<=1000000 then some (bL i (j - i).toNat) else none
 | _=>none
noncomputable def iA (nl:NL):List D->Hh->R D:=fun ds h=>match sW ds with
 | some xs=>nl xs h
 | none=>.bad
theorem uy (lo:Int) (n:Nat) {α:List Addr} {H:Hp}:ao K g α H (bL lo n) ((oQ lo 1 n).map V.int):=by
 have e:bL lo n=(oQ lo 1 n).map D.int:=by
  unfold bL oQ
  rw[List.map_map]
  apply List.map_congr_left
  intro i _
  simp
 rw[e]
 exact ao.ints _
theorem yo {α:List Addr} {H:Hp} {ds:List D} {vs:List V} {xs:List D} (r:ao K g α H ds vs) (e:sW ds=some xs) :
  (∃j,vs=[.int j]/\sA 0 j 1 j.toNat/\xs=bL 0 j.toNat)\/∃i j,vs=[.int i,.int j]/\sA i j 1 (j - i).toNat/\xs=bL i (j - i).toNat:=by
 unfold sW at e
 split at e
 ·rename_i j
  split at e
  ·rename_i hj
   cases e
   cases r with
   | cons r1 t=>
    cases r1
    cases t
    refine .inl ⟨j,rfl,?_,rfl⟩
    have:=vS (a:=0) (b:=j) (by omega) (by omega) (by omega) (by omega) (by omega)
    rw[Int.sub_zero] at this
    exact this
  ·cases e
 ·rename_i i j
  split at e
  ·rename_i hj
   cases e
   cases r with
   | cons r1 t=>
    cases r1
    cases t with
    | cons r2 t=>
     cases r2
     cases t
     exact .inr ⟨i,j,rfl,vS (by omega) (by omega) (by omega) (by omega) (by omega),rfl⟩
  ·cases e
 ·cases e
theorem A7:aR X (.type "range") (fun vs H Q=>(∃j,vs=[.int j]/\∀p,H p=none->Q (.ref p) (upd H p (oo p 0 j 1)))\/∃i j,vs=[.int i,.int j]/\∀p,H p=none->Q (.ref p) (upd H p (oo p i j 1))):=aR.or tR t6
section
variable {e:Expr} {es:List Expr} {mr:MA} {p1 p2 q1 q2:Pos}
theorem vL {nl:NL} [gZ nl] (hc:X.calm=true) (hg:Gl X "list") (hm:X.mg "list" = none) (hg2:Gl X "range") (hm2:X.mg "range" = none) (ha:PA X (e::es) (tMA X.K g ε mr))
  (he:starEach (e::es) X.env=(false,eval e X.env)::starEach es X.env:=by rfl) (hpl:(backTo q2 (starEach es X.env)).any (·.1)=false:=by rfl)
  (he1:starEach [.Call (.Name "range" p2) (e::es) [] q2] X.env=[(false,eval (.Call (.Name "range" p2) (e::es) [] q2) X.env)]:=by rfl) (hpl1:(backTo q1 (starEach [] X.env)).any (·.1)=false:=by rfl) :
  PE X (.Call (.Name "list" p1) [.Call (.Name "range" p2) (e::es) [] q2] [] q1) (tM X.K g ε (ah (iA nl) mr)):=
 PE.imp (PE.frz (iN (kT hc) hg hm PyProof.Rows.boot_list (cU (iN A7 hg2 hm2 PyProof.Rows.boot_range ha (by decide) (by decide) he hpl) gw he1) (by decide) (by decide) he1 hpl1)) fun σ H Q ⟨α,env,h,s,w⟩=>tMA.use s w.bind fun d1 h1 v1 H1 α1 e1 s1 r1 w1=>by
  unfold iA at w1
  cases er:sW d1 with
  | none=>rw[er] at w1;exact w1.elim
  | some xs=>
   rw[er] at w1
   rcases yo r1 er with⟨j,rfl,ok,rfl⟩ | ⟨i,j,rfl,ok,rfl⟩
   ·refine .inl ⟨j,rfl,fun p hp=>⟨p,0,j,1,j.toNat,rfl,aJ,ok,fun l hl=>?_⟩⟩
    have x:=Ext.fresh (K:=X.K) (α:=α1) (o:=oo p 0 j 1) hp
    exact NL.post ((w1.post e1).post x) (s1.heap.grow hp) (uy 0 j.toNat) hl
   ·refine .inr ⟨i,j,rfl,fun p hp=>⟨p,i,j,1,(j - i).toNat,rfl,aJ,ok,fun l hl=>?_⟩⟩
    have x:=Ext.fresh (K:=X.K) (α:=α1) (o:=oo p i j 1) hp
    exact NL.post ((w1.post e1).post x) (s1.heap.grow hp) (uy i (j - i).toNat) hl
end
noncomputable def isL (d:D) (h:Hh):Bool:=match d with
 | .ref n=>(av h n).isSome
 | .frl _=>true
 | _=>false
noncomputable def bo (f:D->List D->Hh->R D) (o:ME) (a:MA):ME:=fun env h=>(o env h).bind fun x h1=>if isL x h1=true then (a env h1).bind fun xs h2=>f x xs h2 else .bad
theorem yc {α:List Addr} {H:Hp} {h:Hh} {d:D} {x:V} (r:aM K g α H h) (rd:aC K g α H d x) (e:isL d h=true):tyV K "list" x H:=by
 unfold isL at e
 cases rd with
 | @ref n p hp=>
  simp only at e
  obtain⟨ds,e⟩:=Option.isSome_iff_exists.mp e
  obtain⟨vs,hv,_⟩:=r.lst e hp
  exact .inl ⟨rfl,vs,SqL.of hv⟩
 | frl hq rs=>exact .inl ⟨rfl,_,hq.sq⟩
 | _=>cases e
theorem eR {o e:Expr} {es:List Expr} {mo:ME} {mr:MA} {name:Str} {apos cpos:Pos} {id:String} {r:V->List V->Hp->VK->Prop} {f:D->List D->Hh->R D} (slot:Slot "list" name id) (hty:typeOf (.builtin id)=pure (.type "method_descriptor")) (hm:MtM X id r) (im:mX X.K g ε f r) (ho:PE X o (tM X.K g ε mo)) (ha:PA X (e::es) (tMA X.K g ε mr))
  (hbase:attributeBase o name X.env (eval o X.env)=eval o X.env:=by rfl)
  (hfew:((backTo cpos (starEach (e::es) X.env)).all (fun x=>!x.1)&&(backToKw cpos (keywordEach [] X.env)).all (fun x=>x.1.isSome)
   && decide ((e::es).length+([]:List Keyword).length+(if ([]:List Keyword).isEmpty then 0 else 1)<30))=true:=by rfl)
  (hline:(apos.endLine == cpos.line)=true:=by rfl) (hs:starEach (e::es) X.env=(false,eval e X.env)::starEach es X.env:=by rfl) (hplain:(backTo cpos (starEach es X.env)).any (·.1)=false:=by rfl) :
  PE X (.Call (.Attribute o name apos) (e::es) [] cpos) (tM X.K g ε (bo f mo mr)):=
 PE.imp (xj PySem.F.plainAttrs_list slot hty hm ho ha hbase hfew hline hs hplain) fun σ H Q ⟨α,env,h,s,w⟩=>tM.use s w.bind fun d1 h1 v1 H1 α1 e1 s1 r1 w1=>by
  obtain⟨hl,w1⟩:=WQ.bI w1
  refine⟨yc s1.heap r1 hl,tMA.use s1 (w1.ext e1).bind fun d2 h2 v2 H2 α2 e2 s2 r2 w2=>?_⟩
  exact im α2 H2 h2 d1 d2 v1 v2 Q s2.heap (r1.ext e2) r2 ((w2.ext e2).mono fun _ _ _ p=>aB.ext (e1.trans e2) p)
noncomputable def bb:D->List D->Hh->R D:=fun o ds h=>match o,ds with
 | .ref n,[d]=>match av h n with
  | some xs=>if xs.length<1000000 then .ok .non (h.set n (.lst (xs++[d]))) else .bad
  | none=>.bad
 | _,_=>.bad
theorem dv:mX K g ε bb r9:=by
 intro α H h o a y x Q r ro ra w
 unfold bb at w
 cases ro with
 | @ref n p hp=>
  cases ra with
  | nil=>exact w.elim
  | @cons d v _ _ rd rr=>
   cases rr with
   | cons _ _=>exact w.elim
   | nil=>
    simp only at w
    cases e:av h n with
    | none=>rw[e] at w;exact w.elim
    | some xs=>
     rw[e] at w
     obtain⟨hl,w⟩:=WQ.bI w
     obtain⟨vs,hv,rs⟩:=r.lst e hp
     refine⟨p,vs,_,rfl,rfl,hv,by rw[<- rs.length,sizeLine_eq];omega,?_⟩
     have x:=Ext.write (o:=.lst (vs++[v])) r hp
     exact(show aB K g α H Q _ _ from w) _ _ α x (r.write hp ⟨_,aJ,(rs.append (.cons rd .nil)).ext x⟩) .non
 | _=>exact w.elim
noncomputable def o_:D->List D->Hh->R D:=fun o ds h=>match o,ds with
 | .ref n,[.int i]=>match av h n with
  | some xs=>match ixN xs.length i with
   | some k=>match xs[k]? with
    | some d=>if xs.length<=1000000 then .ok d (h.set n (.lst (xs.eraseIdx k))) else .bad
    | none=>.bad
   | none=>.bad
  | none=>.bad
 | _,_=>.bad
theorem Bl:mX K g ε o_ uG:=by
 intro α H h o a y x Q r ro ra w
 unfold o_ at w
 cases ro with
 | @ref n p hp=>
  cases ra with
  | nil=>exact w.elim
  | cons rd rr=>
   cases rr with
   | cons _ _=>cases rd<;>exact w.elim
   | nil=>
    cases rd with
    | int i=>
     simp only at w
     cases e:av h n with
     | none=>rw[e] at w;exact w.elim
     | some xs=>
      rw[e] at w
      simp only at w
      cases e2:ixN xs.length i with
      | none=>rw[e2] at w;exact w.elim
      | some k=>
       rw[e2] at w
       simp only at w
       cases e3:xs[k]? with
       | none=>rw[e3] at w;exact w.elim
       | some d=>
        rw[e3] at w
        obtain⟨hl,w⟩:=WQ.bI w
        obtain⟨vs,hv,rs⟩:=r.lst e hp
        obtain⟨v,ev,rv⟩:=rs.get e3
        obtain⟨h1,h2,h3,h4⟩:=nA e2
        refine⟨p,vs,i,k,v,rfl,rfl,hv,?_,?_,by rw[<- rs.length];exact h1,ev,?_⟩
        ·omega
        ·omega
        ·have x:=Ext.write (o:=.lst (vs.eraseIdx k)) r hp
         exact(show aB K g α H Q _ _ from w) _ _ α x (r.write hp ⟨_,aJ,(rs.erase k).ext x⟩) (rv.ext x)
    | _=>exact w.elim
 | _=>exact w.elim
end
section
variable {P:Program} {w:World} {K:PySem.W.Frag} {mg:Str->Option Value} {base:Heap} {g:GG}
noncomputable def aY (K:PySem.W.Frag) (mg:Str->Option Value) (x:Str) (st:Stmt):Prop:=∃f fd,mg x=some (.ref f)/\Fun K x x st f fd
noncomputable def cA (K:PySem.W.Frag) (x:Str) (st:Stmt):Prop:=∃f fd,PySem.W.nsIn K mainGlobals x=some (some (.ref f))/\Fun K x x st f fd
theorem b_ {x:Str} {st:Stmt} {f:Addr} {oc:Value} {od an:Option Addr} {osl:Array (Option Value)} {kV doc pm cdv ct:Value} (a:PySem.W.nsIn K mainGlobals x=some (some (.ref f)))
  (l:K.lookup f=some ⟨oc,od,.func (PySem.W.fnOf x x (dU st) (bq st) (aj st) .none kV doc pm an cdv ct),osl⟩) (c:PySem.W.codeIn K cdv x=true) (k:PySem.W.keepIn K (.ref f)=true):cA K x st:=⟨f,_,a,vD l c k⟩
theorem aY.of {h:Heap} {x:Str} {st:Stmt} (X:K.In h) (G:h.Ns mainGlobals mg) (d:cA K x st):aY K mg x st:=
 let ⟨f,fd,a,F⟩:=d;⟨f,fd,PySem.W.mg_of X G a,F⟩
noncomputable def Has (P:Program) (w:World) (K:PySem.W.Frag) (mg:Str->Option Value) (base:Heap) (g:GG) (x:Str) (k:Nat) (ps:List Str) (m:MF):Prop:=
 ∃f fd,dq P w K mg base CX0 k f fd ps (spM K g ps.length m)/\PySem.W.keepIn K (.ref f)=true/\Binds K fd ps []/\mg x=some (.ref f)/\∃(oc:Value) (od:Option Addr) (osl:Array (Option Value)),K.lookup f=some ⟨oc,od,.func fd,osl⟩
noncomputable def gOf (mg:Str->Option Value):GG:=fun x=>match mg x with
 | some (.ref f)=>some f
 | _=>none
theorem bK {x:Str} {st:Stmt} {f:Addr} {fd:FuncData} (F:Fun K x x st f fd):∃(oc:Value) (od:Option Addr) (osl:Array (Option Value)),K.lookup f=some ⟨oc,od,.func fd,osl⟩:=by
 obtain⟨oc,od,kV,doc,pm,an,cdv,ct,osl,rfl,lk,hcd⟩:=F.ex
 exact⟨oc,od,osl,lk⟩
theorem AW {x:Str} {st:Stmt} {f:Addr} {fd:FuncData} {k:Nat} {ps:List Str} {m:MF} (F:Fun K x x st f fd) (hm:mg x=some (.ref f)) (h:Has P w K mg base g x k ps m):dq P w K mg base CX0 k f fd ps (spM K g ps.length m):=by
 obtain⟨f2,fd2,G,_,_,hm2,oc,od,osl,l2⟩:=h
 obtain⟨oc',od',osl',l1⟩:=bK F
 rw[hm] at hm2
 cases hm2
 rw[l1] at l2
 cases l2
 exact G
end
section
variable {X:Cx} {g:GG} {ε:EE}
theorem Ba {i j:Nat} {x y:Str} {a b:Expr} {ma:MA} {px py pt pos:Pos} {kt k2 pt2} (hc:X.calm=true) (hN:X.N.Nodup) (hi:X.N[i]?=some x) (hj:X.N[j]?=some y) (hij:i≠j) (ha:PA X [a,b] (tMA X.K g ε ma))
  (hx:X.env.scope.names.lookup x=some .local:=by rfl) (hy:X.env.scope.names.lookup y=some .local:=by rfl)
  (hw:swappedStores [.Tuple [.Name x px,.Name y py] kt pt] (.Tuple [a,b] k2 pt2) X.env=pure (some [x,y]):=by rfl)
  (hs:swapsWithSole [.Tuple [.Name x px,.Name y py] kt pt] (.Tuple [a,b] k2 pt2) pos.line X.env=pure false:=by rfl) :
  PS X (.Assign [.Tuple [.Name x px,.Name y py] kt pt] (.Tuple [a,b] k2 pt2) pos) (tMS X.K g ε (uu i j ma)):=Dk hc hN hi hj hij hx hy ha hw hs
end
theorem Ab {k:Nat} {m:MF} {l:PySem.W.OpenLaw} {q:Program} {loose:List Str} {XP:(Str->Option Value)->Heap->Prop} {YP:World->Heap->Prop} {d:DefRec} {K:Params->PySem.W.Frag} (hn:l.most=some 63) (hdf:d.params.defaults=[]) (hr:bT k callerA)
  (hY:∀(w:World) (h:Heap),YP w h->(K w.params).In h)
  (ok:∀ns:List Int,ns.length<=63->∃h,m [.scr (ns.map D.int)] []=.ok (.bl true) h)
  (F:∀(w:World) (mg:Str->Option Value) (fa:Addr) (h:Heap),(K w.params).In h->h.Ns mainGlobals mg->mg d.name=some (.ref fa) →
   ∃fd:FuncData,(∀(s:Shared) (u:Value),BindsTo s fd ⟨[u],[]⟩ [("_law_script", u)])/\∀base:Heap,(K w.params).In base->base.Ns mainGlobals mg->dq l.prog w (K w.params) mg base CX0 k fa fd ["_law_script"] (spM (K w.params) (gOf mg) 1 m)) :
  PySem.W.WalkO q loose XP YP l.row.toRowW d [] (fun f vs=>PySem.call f vs):=by
 refine L2.xT (n:=63) (k:=k) (x:="_law_script") (CX:=fun _=>CX0) (sp:=fun w=>fun vs H Q _=>∃a ns,vs=[V.ref a]/\ns.length<=63/\y_ H/\SqL (K w.params) H a (ns.map V.int)/\∀v H',v=V.bl true->Q v H') hn (by decide) hdf hr hY (fun w mg fa h KX G hmg=>?_) (fun w H a ns hl hO hS=>⟨a,ns,rfl,hl,hO,hS,fun _ _ z=>z⟩) fun _ _ _ _ _ z=>z
 obtain⟨fd,hb,hF⟩:=F w mg fa h KX G hmg
 refine⟨fd,hb,fun base kb nb=>(hF base kb nb).imp fun vs H Q E z=>?_⟩
 obtain⟨a,ns,rfl,hl,hO,hS,hQ⟩:=z
 obtain⟨hh,e⟩:=ok ns hl
 refine⟨rfl,[],[.scr (ns.map D.int)],[],.cons (.scr ?_ (ao.ints ns)) .nil,⟨rfl,fun n m p z=>by simp at z,fun n p o z=>by simp at z⟩,?_⟩
 ·rcases hS with(hS | ⟨o,hS⟩) | hS
  ·rcases hO a with z | ⟨o,xs,z⟩
   ·rw[hS] at z;cases z
   ·rw[hS] at z;cases z
  ·exact .inl ⟨o,hS⟩
  ·exact .inr hS
 ·rw[e]
  intro v H' α' _ _ rd
  cases rd
  exact hQ _ _ rfl
mutual
noncomputable def gW (k:Nat):D->Bool
 | .ref n=>decide (n<k)
 | .tup ds=>bU k ds
 | .frl ds=>bU k ds
 | .scr ds=>bU k ds
 | _=>true
noncomputable def bU (k:Nat):List D->Bool
 | []=>true
 | d::ds=>gW k d&&bU k ds
end
noncomputable def gD (k:Nat):O->Bool
 | .lst ds=>bU k ds
 | .set _=>true
 | .dic kvs=>bU k (kvs.map (·.2))
 | .dit kvs=>bU k (kvs.map (·.2))
noncomputable def iG (f:D->Option D):List D->Option (List D)
 | []=>some []
 | d::ds=>match f d,iG f ds with
  | some e,some es=>some (e::es)
  | _,_=>none
noncomputable def d_ (k:Nat) (h:Hh):Nat->D->Option D
 | 0,_=>none
 | f+1,d=>match d with
  | .ref n=>if n<k then some (.ref n) else match av h n with
   | some ds=>(iG (d_ k h f) ds).map .frl
   | none=>none
  | .tup ds=>(iG (d_ k h f) ds).map .tup
  | .frl ds=>(iG (d_ k h f) ds).map .frl
  | .scr _=>none
  | d=>some d
noncomputable def bZ (h:Hh):D->Hh->R D:=fun d h'=>if (h'.take h.length).all (gD h.length)=true then match d_ h.length h' 8 d with
 | some e=>.ok e (h'.take h.length)
 | none=>.bad else .bad
open Classical in
noncomputable def gP (S:Addr->Prop) (o:Addr->Obj) (H:Hp):Hp:=fun p=>if S p then (H p).map (.frz (o p)) else H p
theorem zR {P:Program} {w:World} {H:Hp} {h:Heap} {p:Addr} {u:HO} (q:br P w H h p u) (mu:Mut (some u)):∃o,h.get? p=some o:=by
 cases u with
 | lst xs=>obtain⟨_,_,_,_,e'⟩:=q;exact⟨_,e'⟩
 | dK kvs=>obtain⟨_,_,_,_,o,_,_,e',_⟩:=q;exact⟨_,e'⟩
 | dT kvs=>obtain⟨_,_,_,_,o,_,_,e',_⟩:=q;exact⟨_,e'⟩
 | set S n=>obtain⟨o,_,_,_,e',_⟩:=q;exact⟨_,e'⟩
 | ins C dx fs=>obtain⟨_,_,_,e',_⟩:=q;exact⟨_,e'⟩
 | ext φ=>obtain⟨_,⟨_,e'⟩,_⟩:=q;exact⟨_,e'⟩
 | _=>exact absurd mu (fun z=>z)
theorem Bn {outer:List Env} {P:Program} {w:World} {H:Hp} {s:Shared} {Q Q':VK} {u:Value} {s':Shared} (h:CE outer P w H s Q' u s')
  (hQ:∀v H',Q' v H'->∃S:Addr->Prop,(∀p,S p->∃u,H' p=some u/\Mut (some u))/\∀o:Addr->Obj,Q v (gP S o H')):CE outer P w H s Q u s':=by
 obtain⟨v,H',os,bare,un,hok,r,q⟩:=h
 obtain⟨S,hS,q⟩:=hQ v H' q
 have hS1:∀p,S p->∀u,H' p=some u->Mut (some u):=fun p z u e=>by obtain⟨u',e',m⟩:=hS p z;rw[e] at e';cases e';exact m
 have off:∀(o:Addr->Obj) b u,H' b=some u->¬ Mut (some u)->gP S o H' b=some u:=fun o b u e m=>by
  unfold gP
  rw[if_neg fun z=>m (hS1 b z u e)];exact e
 have offn:∀(o:Addr->Obj) b,H' b=none->gP S o H' b=none:=fun o b e=>by
  unfold gP
  split
  ·rw[e];rfl
  ·exact e
 let o:Addr->Obj:=fun b=>(s'.heap.get? b).getD { cls:=.none,data:=.fields #[] }
 refine⟨v,gP S o H',os,bare,⟨un.keep,un.slot,fun b ob e n hx=>offn o b (un.free b ob e n hx),un.there,fun b xs e=>off o b _ (un.lg b xs e) fun z=>z,fun b ob xs e=>off o b _ (un.kf b ob xs e) fun z=>z,fun b ps e=>?_⟩,?_,r,q o⟩
 ·obtain⟨more,e1⟩:=un.lu b ps e
  exact⟨more,off o b _ e1 fun z=>z⟩
 ·intro b u e
  have st:∀u,br P w H' s'.heap b u->br P w (gP S o H') s'.heap b u:=fun u x=>x.g_ (fun _ _ _ z=>z) (fun c z=>off o c _ z fun z=>z) fun c xs z=>off o c _ z fun z=>z
  unfold gP at e
  split at e
  ·rename_i hb
   obtain⟨u',e',m⟩:=hS b hb
   rw[e'] at e
   cases e
   have x:=hok b u' e'
   obtain⟨ob,eo⟩:=zR x m
   refine⟨?_,st _ x⟩
   show s'.heap.get? b=some ((s'.heap.get? b).getD _)
   rw[eo];rfl
  ·exact st u (hok b u e)
section
variable {K:PySem.W.Frag} {g:GG} {α α':List Addr} {H H' H2:Hp} {k:Nat}
structure lO (K:PySem.W.Frag) (α α':List Addr) (H' H2:Hp) (k:Nat):Prop where
 pre:∀n,n<k->α[n]?=α'[n]?
 tup:∀p xs,H' p=some (.tup xs)->H2 p=some (.tup xs)
 frz:∀p (o:Obj) (u:HO),H' p=some (.frz o u)->H2 p=some (.frz o u)
mutual
theorem nX (L:lO K α α' H' H2 k):∀{d:D} {v:V},gW k d=true->aC K g α' H' d v->aC K g α H2 d v
 | _,_,_,.non=>.non
 | _,_,_,.bl b=>.bl b
 | _,_,_,.int i=>.int i
 | _,_,_,.str x=>.str x
 | _,_,hl,.ref h=>.ref (by rw[L.pre _ (by simpa [gW] using hl)];exact h)
 | _,_,hl,.tup h r=>.tup (L.tup _ _ h) (eX L (by simpa [gW] using hl) r)
 | _,_,hl,.frl h r=>.frl (let ⟨o,h⟩:=h;⟨o,L.frz _ _ _ h⟩) (eX L (by simpa [gW] using hl) r)
 | _,_,hl,.scr h r=>.scr (h.elim (fun⟨o,h⟩=>.inl ⟨o,L.frz _ _ _ h⟩) .inr) (eX L (by simpa [gW] using hl) r)
 | _,_,_,.fn h=>.fn h
 | _,_,_,.edic h=>.edic (L.frz _ _ _ h)
 | _,_,_,.exc hg h hc hd hf=>.exc hg (L.frz _ _ _ h) hc hd (hf.elim .inl fun⟨dx,od,a,b⟩=>.inr ⟨dx,od,a,L.frz _ _ _ b⟩)
theorem eX (L:lO K α α' H' H2 k):∀{ds:List D} {vs:List V},bU k ds=true->ao K g α' H' ds vs->ao K g α H2 ds vs
 | _,_,_,.nil=>.nil
 | _,_,hl,.cons r t=>by
  simp only[bU,Bool.and_eq_true] at hl
  exact .cons (nX L hl.1 r) (eX L hl.2 t)
end
theorem gQ {f:D->Option D} (hf:∀d e v,f d=some e->aC K g α' H' d v->aC K g α H2 e v):∀{ds es:List D} {vs:List V},iG f ds=some es->ao K g α' H' ds vs->ao K g α H2 es vs
 | [],es,_,e,.nil=>by cases e;exact .nil
 | d::ds,es,_,e,.cons r t=>by
  unfold iG at e
  split at e
  ·rename_i e1 es1 h1 h2
   cases e
   exact .cons (hf _ _ _ h1 r) (gQ hf h2 t)
  ·cases e
theorem jL {h' hx:Hh} (L:lO K α α' H' H2 k) (r:aM K g α' H' h') (hx':∀n ds,av hx n=some ds->av h' n=some ds) (fz:∀n p ds vs,k<=n->av hx n=some ds->α'[n]?=some p->H' p=some (.lst vs)->Fr1 H2 p vs) :
  ∀(f:Nat) (d e:D) (v:V),d_ k hx f d=some e->aC K g α' H' d v->aC K g α H2 e v
 | 0,_,_,_,e,_=>by cases e
 | f+1,d,e,v,he,rd=>by
  unfold d_ at he
  cases rd with
  | non=>cases he;exact .non
  | bl b=>cases he;exact .bl b
  | int i=>cases he;exact .int i
  | str x=>cases he;exact .str x
  | fn h=>cases he;exact .fn h
  | edic h=>cases he;exact .edic (L.frz _ _ _ h)
  | exc hg h hc hd hf=>cases he;exact .exc hg (L.frz _ _ _ h) hc hd (hf.elim .inl fun⟨dx,od,a,b⟩=>.inr ⟨dx,od,a,L.frz _ _ _ b⟩)
  | scr _ _=>cases he
  | tup h rs=>
   simp only at he
   cases e1:iG (d_ k hx f) _ with
   | none=>rw[e1] at he;cases he
   | some es=>rw[e1] at he;cases he;exact .tup (L.tup _ _ h) (gQ (fun d e v=>jL L r hx' fz f d e v) e1 rs)
  | frl h rs=>
   simp only at he
   cases e1:iG (d_ k hx f) _ with
   | none=>rw[e1] at he;cases he
   | some es=>rw[e1] at he;cases he;exact .frl (let ⟨o,h⟩:=h;⟨o,L.frz _ _ _ h⟩) (gQ (fun d e v=>jL L r hx' fz f d e v) e1 rs)
  | @ref n p hp=>
   simp only at he
   split at he
   ·rename_i hn
    cases he
    exact .ref (by rw[L.pre n hn];exact hp)
   ·rename_i hn
    cases el:av hx n with
    | none=>rw[el] at he;cases he
    | some ds=>
     rw[el] at he
     simp only at he
     cases e1:iG (d_ k hx f) ds with
     | none=>rw[e1] at he;cases he
     | some es=>
      rw[e1] at he;cases he
      obtain⟨vs,hv,rs⟩:=r.lst (hx' n ds el) hp
      exact .frl (fz n p ds vs (by omega) el hp hv) (gQ (fun d e v=>jL L r hx' fz f d e v) e1 rs)
end
theorem jZ {β:Type} {l:List β} {k n:Nat} {x:β} (e:(l.take k)[n]?=some x):n<k/\l[n]?=some x:=by
 rw[List.getElem?_take] at e
 split at e
 ·exact⟨by assumption,e⟩
 ·cases e
theorem jO {α α':List Addr} (h:α <+: α') {n:Nat} (hn:n<α.length):α[n]?=α'[n]?:=by
 obtain⟨t,rfl⟩:=h
 rw[List.getElem?_append_left hn]
theorem xP {β:Type} {l:List β} {f:β->Bool} (h:l.all f=true) {n:Nat} {x:β} (e:l[n]?=some x):f x=true:=List.all_eq_true.mp h x (List.mem_of_getElem? e)
theorem pH {K:PySem.W.Frag} {g:GG} {α α' α2:List Addr} {H H' H2:Hp} {h h':Hh} (r0:α.length=h.length) (e:Ext K α H α' H') (r:aM K g α' H' h') (hl:(h'.take h.length).all (gD h.length)=true)
  (L:lO K α2 α' H' H2 h.length) (kp:∀n p u,n<h.length->α'[n]?=some p->H' p=some u->H2 p=some u):∀(n:Nat) (p:Addr) (o:O),n<h.length->α'[n]?=some p->(h'.take h.length)[n]?=some o->OAt K g α2 H2 p o:=by
 intro n p o hn hp ho
 have lo:=xP hl ho
 obtain⟨_,ho'⟩:=jZ ho
 have q:=r.here n p o hp ho'
 cases o with
 | lst ds=>obtain⟨vs,a,b⟩:=q;exact⟨vs,kp n p _ hn hp a,eX L lo b⟩
 | set m=>exact kp n p _ hn hp q
 | dic kvs=>
  obtain⟨kws,a,b⟩:=q
  refine⟨kws,kp n p _ hn hp a,?_⟩
  replace lo:bU h.length (kvs.map (·.2))=true:=lo
  clear a ho ho'
  induction b with
  | nil=>exact .nil
  | cons x t ih=>
   simp only[List.map_cons,bU,Bool.and_eq_true] at lo
   exact .cons ⟨x.1,nX L lo.1 x.2⟩ (ih lo.2)
 | dit kvs=>
  obtain⟨kws,a,b⟩:=q
  refine⟨kws,kp n p _ hn hp a,?_⟩
  replace lo:bU h.length (kvs.map (·.2))=true:=lo
  clear a ho ho'
  induction b with
  | nil=>exact .nil
  | cons x t ih=>
   simp only[List.map_cons,bU,Bool.and_eq_true] at lo
   exact .cons ⟨x.1,nX L lo.1 x.2⟩ (ih lo.2)
section
variable {P:Program} {w:World} {K:PySem.W.Frag} {mg:Str->Option Value} {base:Heap} {g:GG} {k np:Nat} {f:Addr} {fd:FuncData} {ps:List Str} {m:MF}
theorem gY {CX:CXT} {ε:XK->EE} (F:dq P w K mg base CX k f fd ps (spG K g ε np m)):dq P w K mg base CX k f fd ps (spG K g ε np fun ds h=>(m ds h).bind (bZ h)):=by
 refine⟨fun vs H Q E h=>?_,fun A outer s H args us vs Q E hr e0 hb hv hsp=>?_⟩
 ·obtain⟨hl,α,ds,h,rs,hh,w⟩:=h
  exact F.len vs H (fun _ _=>True) E ⟨hl,α,ds,h,rs,hh,w.bind.mono fun _ _ _ _ _ _ _ _ _ _=>trivial⟩
 ·obtain⟨hl,α,ds,h,rs,hh,w⟩:=hsp
  refine codeAny_mono (F.run A outer s H args us vs (fun v H'=>∃α' d h',Ext K α H α' H'/\aM K g α' H' h'/\aC K g α' H' d v/\WQ K g (ε E) α H (bZ h d h') (aB K g α H Q)) E hr e0 hb hv ⟨hl,α,ds,h,rs,hh,w.bind.mono fun d h' _ w1 v H' α' e r rd=>⟨α',d,h',e,r,rd,w1⟩⟩) fun res s' q=>?_
  cases res with
  | error e=>exact q
  | ok fl=>
   cases fl with
   | ret u=>
    refine Bn (show CE outer P _ H s _ u s' from q) fun v H' ⟨α',d,h',e,r,rd,w⟩=>?_
    refine⟨fun p=>∃n ds,h.length<=n/\α'[n]?=some p/\av h' n=some ds,fun p ⟨n,ds,_,hp,hn⟩=>?_,fun o=>?_⟩
    ·obtain⟨vs,hv,_⟩:=r.lst hn hp
     exact⟨_,hv,trivial⟩
    ·unfold bZ at w
     obtain⟨hl,w⟩:=WQ.bI w
     cases ez:d_ h.length h' 8 d with
     | none=>rw[ez] at w;exact w.elim
     | some e'=>
      rw[ez] at w
      generalize hS:(fun p=>∃n ds,h.length<=n/\α'[n]?=some p/\av h' n=some ds)=S
      have inS:∀p,S p↔∃n ds,h.length<=n/\α'[n]?=some p/\av h' n=some ds:=fun p=>by rw[<- hS]
      have k0:α.length=h.length:=hh.len
      have notS:∀p u,H' p=some u->(∀vs,u≠.lst vs)->¬ S p:=fun p u e1 e2 z=>by
       obtain⟨n,ds,_,hp,hn⟩:=(inS p).mp z
       obtain⟨vs,hv,_⟩:=r.lst hn hp
       rw[e1] at hv;cases hv;exact e2 vs rfl
      have off:∀p,¬ S p->gP S o H' p=H' p:=fun p z=>by unfold gP;rw[if_neg z]
      have L:lO K α α' H' (gP S o H') h.length:=⟨fun n hn=>jO e.pre (by omega),fun p xs z=>by rw[off p (notS p _ z fun vs z=>nomatch z)];exact z,fun p o u z=>by rw[off p (notS p _ z fun vs z=>nomatch z)];exact z⟩
      have kp:∀n p u,n<h.length->α'[n]?=some p->H' p=some u->gP S o H' p=some u:=fun n p u hn hp e1=>by
       rw[off p fun z=>?_];exact e1
       obtain⟨m,ds,hm,hp',_⟩:=(inS p).mp z
       have:=r.inj n m p hp hp'
       omega
      have rd2:aC K g α (gP S o H') e' v:=jL L r (fun _ _ z=>z) (fun n p ds vs hn hl hp hv=>⟨o p,by unfold gP;rw[if_pos ((inS p).mpr ⟨n,ds,hn,hp,hl⟩),hv];rfl⟩) 8 d e' v ez rd
      refine(show aB K g α H Q e' (h'.take h.length) from w) v _ α ⟨⟨List.prefix_refl _,fun p xs z=>L.tup p xs (e.tup p xs z),fun p o u z=>L.frz p o u (e.frz p o u z)⟩,fun p u z n=>?_,fun _ z n=>absurd z n⟩ ⟨?_,fun n m p h1 h2=>hh.inj n m p h1 h2,fun n p ob h1 h2=>?_⟩ rd2
      ·rw[off p fun z'=>?_];exact e.keep p u z n
       obtain⟨m,ds,_,hp',_⟩:=(inS p).mp z'
       have:=e.new p (List.mem_of_getElem? hp') n
       rw[z] at this;cases this
      ·rw[List.length_take,<- r.len,k0]
       have:=e.pre.length_le
       omega
      ·have hn:n<h.length:=(jZ h2).1
       rw[jO e.pre (by omega)] at h1
       exact pH k0 e r hl L kp n p ob hn h1 h2
   | next=>exact q
   | brk=>exact q
   | cont=>exact q
end
section
variable {X:Cx} {g:GG} {ε:EE} {K:PySem.W.Frag}
noncomputable def jf:List D->Option (List Bool)
 | []=>some []
 | .bl b::r=>(jf r).map (b::·)
 | _=>none
theorem gq:∀{ds:List D} {bs:List Bool},jf ds=some bs->ds=bs.map D.bl
 | [],_,e=>by cases e;rfl
 | d::ds,bs,e=>by
  cases d with
  | bl b=>
   simp only[jf] at e
   cases e2:jf ds with
   | none=>rw[e2] at e;cases e
   | some cs=>
    rw[e2] at e
    cases e
    rw[gq e2];rfl
  | _=>cases e
theorem ao.Aq {α:List Addr} {H:Hp}:∀{bs:List Bool} {vs:List V},ao K g α H (bs.map D.bl) vs->vs=bs.map V.bl
 | [],_,.nil=>rfl
 | b::bs,_,.cons r t=>by
  cases r
  rw[ao.Aq t];rfl
end
end L2.FE
namespace L2.FE
open PySem
section
variable {β γ:Type} {h h1:Hh} {env:En}
@[simp] theorem aZ {b:β} {f:β->Hh->R γ}:(R.ok b h).bind f=f b h:=Eq.trans rfl rfl
@[simp] theorem wF {x:Xc} {f:β->Hh->R γ}:(R.err x h).bind f=.err x h:=Eq.trans rfl rfl
@[simp] theorem e_C {d:D}:cC d env h=.ok d h:=Eq.trans rfl rfl
@[simp] theorem qL {d:D} {r:En}:ag 0 (some d::r) h=.ok d h:=Eq.trans rfl rfl
@[simp] theorem vn {i:Nat} {x:Option D} {r:En}:ag (i+1) (x::r) h=ag i r h:=Eq.trans rfl rfl
@[simp] theorem Ca {f:D->D->Hh->R D} {a b:ME}:aq f a b env h=(a env h).bind fun x h1=>(b env h1).bind fun y h2=>f x y h2:=Eq.trans rfl rfl
@[simp] theorem Ed {f:D->Hh->R D} {a:ME}:cUn f a env h=(a env h).bind fun x h1=>f x h1:=Eq.trans rfl rfl
@[simp] theorem zw:ai env h=.ok [] h:=Eq.trans rfl rfl
@[simp] theorem xi {a:ME} {r:MA}:aa a r env h=(a env h).bind fun x h1=>(r env h1).bind fun xs h2=>.ok (x::xs) h2:=Eq.trans rfl rfl
@[simp] theorem vz {f:List D->Hh->R D} {a:MA}:ah f a env h=(a env h).bind f:=Eq.trans rfl rfl
@[simp] theorem xF {f:D->List D->Hh->R D} {o:ME} {a:MA}:bo f o a env h=(o env h).bind fun x h1=>if isL x h1=true then (a env h1).bind fun xs h2=>f x xs h2 else .bad:=Eq.trans rfl rfl
@[simp] theorem Bi {f:D->Hh->R Bool} {a:ME}:aK f a env h=(a env h).bind f:=Eq.trans rfl rfl
@[simp] theorem Bq {a:MT}:dk a env h=(a env h).bind fun b h1=>.ok (!b) h1:=Eq.trans rfl rfl
@[simp] theorem D2 {a b:MT}:ou a b env h=(a env h).bind fun x h1=>if x=true then b env h1 else .ok false h1:=Eq.trans rfl rfl
@[simp] theorem Cq {a b:MT}:g8 a b env h=(a env h).bind fun x h1=>if x=true then .ok true h1 else b env h1:=Eq.trans rfl rfl
@[simp] theorem Ft {c:MT} {a b:ME}:cIf c a b env h=(c env h).bind fun x h1=>if x=true then a env h1 else b env h1:=Eq.trans rfl rfl
@[simp] theorem E_ {b:Bool}:asB (.bl b) h=.ok b h:=Eq.trans rfl rfl
@[simp] theorem Eo {a b:ME}:rT a b env h=(a env h).bind fun x h1=>(asB x h1).bind fun k h2=>if k=true then b env h2 else .ok (.bl false) h2:=Eq.trans rfl rfl
@[simp] theorem DQ {a:ME}:vT a env h=(a env h).bind fun x h1=>(asB x h1).bind fun k h2=>.ok (.bl (!k)) h2:=Eq.trans rfl rfl
@[simp] theorem zg {f f':D->D->Hh->R D} {a b c:ME}:fe f f' a b c env h=(a env h).bind fun x h1=>(b env h1).bind fun y h2=>(f x y h2).bind fun z h3=>(asB z h3).bind fun k h4=>if k=true then (c env h4).bind fun w h5=>f' y w h5 else .ok (.bl false) h4:=Eq.trans rfl rfl
@[simp] theorem CC:bX env h=.ok none h:=Eq.trans rfl rfl
noncomputable def zI:D->Hh->R (Option Int):=fun d h1=>match d with
 | .int i=>.ok (some i) h1
 | _=>.bad
@[simp] theorem DO {i:Int}:zI (.int i) h=.ok (some i) h:=Eq.trans rfl rfl
@[simp] theorem DR {a:ME}:cL a env h=(a env h).bind zI:=Eq.trans rfl rfl
@[simp] theorem DP {nl:NL} {a:ME} {l u:MO}:nS nl a l u env h=(a env h).bind fun x h1=>(l env h1).bind fun lo h2=>(u env h2).bind fun hi h3=>xY nl x lo hi h3:=Eq.trans rfl rfl
@[simp] theorem Ez:b8 env h=.ok (.nx env) h:=Eq.trans rfl rfl
noncomputable def AB (b:MS):Fl->Hh->R Fl:=fun fl h1=>match fl with
 | .nx e=>b e h1
 | fl=>.ok fl h1
@[simp] theorem Et {b:MS} {e:En}:AB b (.nx e) h=b e h:=Eq.trans rfl rfl
@[simp] theorem Fv {b:MS} {d:D}:AB b (.rt d) h=.ok (.rt d) h:=Eq.trans rfl rfl
@[simp] theorem zl {a b:MS}:aF a b env h=(a env h).bind (AB b):=by
 unfold aF
 first | rfl | (congr 1;funext fl h1;cases fl<;>rfl)
@[simp] theorem ET {a:ME}:dm a env h=(a env h).bind fun _ h1=>.ok (.nx env) h1:=Eq.trans rfl rfl
@[simp] theorem E4 {a:ME}:bD a env h=(a env h).bind fun d h1=>.ok (.rt d) h1:=Eq.trans rfl rfl
@[simp] theorem DG {c:MT} {a b:MS}:dC c a b env h=(c env h).bind fun x h1=>if x=true then a env h1 else b env h1:=Eq.trans rfl rfl
@[simp] theorem EX {i:Nat} {a:ME}:bB i a env h=(a env h).bind fun d h1=>.ok (.nx (env.set i (some d))) h1:=Eq.trans rfl rfl
noncomputable def B8 (i j:Nat) (env:En):List D->Hh->R Fl:=fun ds h1=>match ds with
 | [x,y]=>.ok (.nx ((env.set i (some x)).set j (some y))) h1
 | _=>.bad
@[simp] theorem EH {i j:Nat} {x y:D}:B8 i j env [x,y] h=.ok (.nx ((env.set i (some x)).set j (some y))) h:=Eq.trans rfl rfl
@[simp] theorem E8 {i j:Nat} {a:MA}:uu i j a env h=(a env h).bind (B8 i j env):=by
 rfl
@[simp] theorem A8 {i:Nat} {d:D}:gN i d env h=.ok (env.set i (some d)) h:=Eq.trans rfl rfl
@[simp] theorem E9 {i j:Nat} {x y:D}:gT2 i j (.tup [x,y]) env h=.ok ((env.set i (some x)).set j (some y)) h:=Eq.trans rfl rfl
@[simp] theorem DK {f:D->D->D->Hh->R Unit} {o i v:ME}:nj f o i v env h=(v env h).bind fun x h1=>(o env h1).bind fun y h2=>(i env h2).bind fun z h3=>(f y z x h3).bind fun _ h4=>.ok (.nx env) h4:=Eq.trans rfl rfl
noncomputable def CW:Fl->Hh->R D:=fun fl h1=>match fl with
 | .rt d=>.ok d h1
 | .nx _=>.ok .non h1
 | _=>.bad
@[simp] theorem Fu {d:D}:CW (.rt d) h=.ok d h:=Eq.trans rfl rfl
theorem aW {n:Nat} {m:MS} {ds:List D}:cI n m ds h=(m (ds.map some++List.replicate (n - ds.length) none) h).bind CW:=by
 unfold cI
 first | rfl | (congr 1;funext fl h1;cases fl<;>rfl)
section
variable {nl:NL}
@[simp] theorem AN {i j:Int}:aL nl (.int i) (.int j) h=.ok (.int (i+j)) h:=Eq.trans rfl rfl
@[simp] theorem D4 {i j:Int}:ub (.int i) (.int j) h=.ok (.int (i - j)) h:=Eq.trans rfl rfl
@[simp] theorem Fd {i j:Int}:dLt (.int i) (.int j) h=.ok (.bl (decide (i<j))) h:=by unfold dLt;rw[kQ];rfl
@[simp] theorem Fp {i j:Int}:dLe (.int i) (.int j) h=.ok (.bl (decide (i<=j))) h:=by unfold dLe;rw[m4];rfl
@[simp] theorem Fi {i j:Int}:dGt (.int i) (.int j) h=.ok (.bl (decide (j<i))) h:=by unfold dGt;rw[kQ];rfl
@[simp] theorem Ff {i j:Int}:dGe (.int i) (.int j) h=.ok (.bl (decide (j<=i))) h:=by unfold dGe;rw[m4];rfl
@[simp] theorem Em {i j:Int}:ff nl (.int i) (.int j) h=if sml i=true/\sml j=true then .ok (.int (i*j)) h else .bad:=Eq.trans rfl rfl
@[simp] theorem EM {i j:Int}:v7 (.int i) (.int j) h=if 0<j/\sml j=true then .ok (.int (i / j)) h else .bad:=Eq.trans rfl rfl
@[simp] theorem D9 {i j:Int}:pT (.int i) (.int j) h=if 0<j then .ok (.int (i % j)) h else .bad:=Eq.trans rfl rfl
@[simp] theorem EV {i j:Int}:yZ (.int i) (.int j) h=if 0<=j/\j.natAbs<=1000/\sml i=true then .ok (.int (i ^ j.toNat)) h else .bad:=Eq.trans rfl rfl
@[simp] theorem EC {i j:Int}:xl [.int i,.int j] h=.ok (.int (max i j)) h:=by
 have:(if j > i then j else i)=max i j:=by split<;>omega
 rw[<- this];rfl
@[simp] theorem Ew {b:Bool}:wj [.bl b] h=.ok (.int (if b then 1 else 0)) h:=Eq.trans rfl rfl
@[simp] theorem EZ {ds:List D}:eV ds h=if ds.length<=1000000 then .ok (.tup ds) h else .bad:=Eq.trans rfl rfl
@[simp] theorem Fb {ds:List D}:bg nl ds h=if ds.length<=1000000 then nl ds h else .bad:=Eq.trans rfl rfl
@[simp] theorem DX {ds:List D}:dO ds h=.ok (.ref h.length) (h++[.lst ds]):=Eq.trans rfl rfl
@[simp] theorem Eh {ds:List D}:au ds h=.ok (.frl ds) h:=Eq.trans rfl rfl
@[simp] theorem Ei {ds:List D}:bC [.tup ds] h=.ok (.int ds.length) h:=Eq.trans rfl rfl
@[simp] theorem EW {ds:List D}:bC [.frl ds] h=.ok (.int ds.length) h:=Eq.trans rfl rfl
@[simp] theorem D0 {ds:List D}:bC [.scr ds] h=.ok (.int ds.length) h:=Eq.trans rfl rfl
noncomputable def ixK (ds:List D) (i:Int) (h:Hh):R D:=match atI ds i with
 | some d=>.ok d h
 | none=>.bad
@[simp] theorem Fh {ds:List D} {i:Int}:dIx (.scr ds) (.int i) h=ixK ds i h:=Eq.trans rfl rfl
theorem p6 {n:Nat} {ds:List D} {i:Int} (e:av h n=some ds):dIx (.ref n) (.int i) h=ixK ds i h:=by
 have z:kH (.ref n) h=some ds:=e
 delta dIx;rw[z];rfl
theorem AR {ds:List D} {i:Int} {d:D} (e:atI ds i=some d):ixK ds i h=.ok d h:=by simp only[ixK,e]
theorem xa {β:Type} {xs:List β} {j:Nat} {v:β} {i:Int} (h:xs[j]?=some v) (e:i=(j:Int)):atI xs i=some v:=by rw[e];exact yi h
theorem sI {ds:List D} {i:Int} {j:Nat} {d:D} (e:i=(j:Int)) (e2:ds[j]?=some d):ixK ds i h=.ok d h:=AR (xa e2 e)
noncomputable def gI (ns:List Int) (i:Nat):Int:=ns.getD i 0
theorem zB {ns:List Int} {j:Nat} (hj:j<ns.length):gI ns j=ns[j]:=by
 unfold gI;rw[List.getD_eq_getElem?_getD,List.getElem?_eq_getElem hj];rfl
@[simp] theorem Fg {d:D} {ds:List D}:ixK (d::ds) 0 h=.ok d h:=sI (j:=0) rfl rfl
@[simp] theorem Fc {d d1:D} {ds:List D}:ixK (d::d1::ds) 1 h=.ok d1 h:=sI (j:=1) rfl rfl
@[simp] theorem EA {ds:List D} {lo hi:Option Int}:xY nl (.scr ds) lo hi h=nl (cutD ds lo hi) h:=Eq.trans rfl rfl
@[simp] theorem EO {a b:List D}:aL nl (.frl a) (.frl b) h=if a.length+b.length<=1000000 then nl (a++b) h else .bad:=Eq.trans rfl rfl
@[simp] theorem DS {a b:Str}:aL nl (.str a) (.str b) h=if a.length+b.length<=1000000 then .ok (.str (a++b)) h else .bad:=Eq.trans rfl rfl
@[simp] theorem Eb {ds:List D}:eN [.frl ds] h=.ok (.tup ds) h:=Eq.trans rfl rfl
@[simp] theorem BJ {b:Bool}:hZ (.bl b) h=.ok b h:=Eq.trans rfl rfl
@[simp] theorem Fs {i j:Int}:dEq (.int i) (.int j) h=.ok (.bl (i == j)) h:=Eq.trans rfl rfl
@[simp] theorem Fe {i j:Str}:dEq (.str i) (.str j) h=.ok (.bl (i == j)) h:=Eq.trans rfl rfl
@[simp] theorem sF {i j:Str}:dNe (.str i) (.str j) h=.ok (.bl (!(i == j))) h:=Eq.trans rfl rfl
@[simp] theorem ED {i:Int}:fZ "int" (.int i) h=.ok (.bl true) h:=Eq.trans rfl rfl
@[simp] theorem DU {i:Int}:fZ "bool" (.int i) h=.ok (.bl false) h:=Eq.trans rfl rfl
@[simp] theorem z0 {ds:List D}:fZ "tuple" (.tup ds) h=.ok (.bl true) h:=Eq.trans rfl rfl
@[simp] theorem CH {j:Int}:iA nl [.int j] h=if j.natAbs<=1000000 then nl (bL 0 j.toNat) h else .bad:=by
 by_cases z:j.natAbs<=1000000
 ·rw[if_pos z];simp only[iA,sW,if_pos z]
 ·rw[if_neg z];simp only[iA,sW,if_neg z]
@[simp] theorem cF {ds:List D} {t:Hh}:av (h++.lst ds::t) h.length=some ds:=by
 unfold av;rw[List.getElem?_append_right (Nat.le_refl _)];simp
@[simp] theorem jI {o o':O} {t:Hh}:(h++o::t).set h.length o'=h++o'::t:=by
 rw[List.set_append_right _ _ (Nat.le_refl _)];simp
theorem qo {n:Nat} {ds:List D} (e:av h n=some ds):isL (.ref n) h=true:=by simp[isL,e]
theorem oB {n:Nat} {ds:List D} {d:D} (e:av h n=some ds):bb (.ref n) [d] h=if ds.length<1000000 then .ok .non (h.set n (.lst (ds++[d]))) else .bad:=by delta bb;dsimp only;rw[e]
theorem wD {n:Nat} {ds:List D} (e:av h n=some ds):bC [.ref n] h=.ok (.int ds.length) h:=by
 unfold av at e
 split at e
 ·rename_i ds' q;cases e;delta bC;dsimp only;rw[q]
 ·cases e
theorem nq {n:Nat} {ds:List D} {i:Int} {j:Nat} {v:D} (e:av h n=some ds) (e2:ixN ds.length i=some j):iP (.ref n) (.int i) v h=.ok () (h.set n (.lst (ds.set j v))):=by delta iP;dsimp only;rw[e];dsimp only;rw[e2]
@[simp] theorem DN {k:List Int} {t:Hh}:bC [.ref h.length] (h++.set k::t)=.ok (.int k.length) (h++.set k::t):=by
 have:(h++O.set k::t)[h.length]?=some (.set k):=by rw[List.getElem?_append_right (Nat.le_refl _)];simp
 delta bC;dsimp only;rw[this]
@[simp] theorem BH {ns:List Int}:oO [.tup (ns.map D.int)] h=if ns.length<=4000 then .ok (.ref h.length) (h++[.set (unl ns)]) else .bad:=by delta oO;dsimp only;rw[kA]
@[simp] theorem EK {ds:List D} {t:Hh}:isL (.ref h.length) (h++.lst ds::t)=true:=qo cF
@[simp] theorem BM {ds:List D} {d:D} {t:Hh}:bb (.ref h.length) [d] (h++.lst ds::t)=if ds.length<1000000 then .ok .non (h++.lst (ds++[d])::t) else .bad:=by rw[oB cF,jI]
@[simp] theorem D7 {ds:List D} {t:Hh}:bC [.ref h.length] (h++.lst ds::t)=.ok (.int ds.length) (h++.lst ds::t):=wD cF
theorem yH {n j:Nat} {i:Int} (e:i=(j:Int)) (hj:j<n):ixN n i=some j:=by
 subst e
 unfold ixN
 rw[if_pos (by omega),if_pos (by omega)];simp
end
@[simp] theorem ER {a:MA}:gu eW a env h=(a env h).bind eW:=Eq.trans rfl rfl
@[simp] theorem EF {j:Int}:eW [.int j] h=if j.natAbs<=1000000 then .ok (.snap (bL 0 j.toNat)) h else .bad:=Eq.trans rfl rfl
@[simp] theorem E3 {a:ME}:cB a env h=(a env h).bind qg:=Eq.trans rfl rfl
@[simp] theorem Fn {ds:List D}:qg (.tup ds) h=.ok (.snap ds) h:=Eq.trans rfl rfl
@[simp] theorem EY {ds:List D}:qg (.frl ds) h=.ok (.snap ds) h:=Eq.trans rfl rfl
theorem Dq {n:Nat} {ds:List D} (e:av h n=some ds):qg (.ref n) h=.ok (.live n) h:=by simp only[qg,e]
noncomputable def A3 (tg:D->En->Hh->R En) (body:MS) (env:En):Src->Hh->R Fl:=fun sr h1=>match sr with
 | .snap ds=>cS tg body ds env h1
 | .live n=>fk (Src.live n).rdr tg body ((av h1 n).getD []).length 0 env h1
 | .liveE n=>fk (Src.liveE n).rdr tg body ((av h1 n).getD []).length 0 env h1
@[simp] theorem EJ {tg:D->En->Hh->R En} {body:MS} {ds:List D}:A3 tg body env (.snap ds) h=cS tg body ds env h:=Eq.trans rfl rfl
@[simp] theorem Fo {mi:MI} {tg:D->En->Hh->R En} {body:MS}:dN mi tg body env h=(mi env h).bind (A3 tg body env):=by
 unfold dN
 congr 1
noncomputable def Cp (nl:NL) (tt:MT) (te:ME) (ee:D->En):Src->Hh->R D:=fun sr h1=>if sr.fuel h1<=1000000 then
 (match sr with
  | .snap ds=>cj tt te ee ds h1
  | .live n=>eU (Src.live n).rdr tt te ee ((av h1 n).getD []).length 0 [] h1
  | .liveE n=>eU (Src.liveE n).rdr tt te ee ((av h1 n).getD []).length 0 [] h1).bind nl else .bad
@[simp] theorem D5 {nl:NL} {mi:MI} {ix:List Nat} {tt:MT} {te:ME}:ck nl mi ix tt te env h=(mi env h).bind (Cp nl tt te (gC ix env)):=Eq.trans rfl rfl
@[simp] theorem DJ {nl:NL} {tt:MT} {te:ME} {ee:D->En} {ds:List D}:Cp nl tt te ee (.snap ds) h=if ds.length<=1000000 then (cj tt te ee ds h).bind nl else .bad:=Eq.trans rfl rfl
@[simp] theorem l0 {lo:Int} {n:Nat}:(bL lo n).length=n:=by simp[bL]
@[simp] theorem E2 {ix:List Nat}:gC ix env=fun d=>some d::ix.map fun i=>(env[i]?).join:=Eq.trans rfl rfl
@[simp] theorem zq:tt1 env h=.ok true h:=Eq.trans rfl rfl
noncomputable def uQ (tg:D->En->Hh->R En) (body:MS) (ds:List D):Fl->Hh->R Fl:=fun fl h2=>match fl with
 | .nx e=>cS tg body ds e h2
 | .ct e=>cS tg body ds e h2
 | .bk e=>.ok (.nx e) h2
 | .rt d=>.ok (.rt d) h2
theorem eD {tg:D->En->Hh->R En} {body:MS} {d:D} {ds:List D}:cS tg body (d::ds) env h=(tg d env h).bind fun e1 h1=>(body e1 h1).bind (uQ tg body ds):=rfl
@[simp] theorem lZ {tg:D->En->Hh->R En} {body:MS} {ds:List D} {e:En}:uQ tg body ds (.nx e) h=cS tg body ds e h:=Eq.trans rfl rfl
@[simp] theorem C8 {tg:D->En->Hh->R En} {body:MS} {ds:List D} {d:D}:uQ tg body ds (.rt d) h=.ok (.rt d) h:=Eq.trans rfl rfl
theorem comp_map {X:Type} {tt:MT} {te:ME} {ee:D->En} (enc:X->D) (p:X->Bool) (g:X->D):∀(xs:List X),(∀x∈xs,tt (ee (enc x)) h=.ok (p x) h/\(p x=true->te (ee (enc x)) h=.ok (g x) h)) →
  cj tt te ee (xs.map enc) h=.ok ((xs.filter p).map g) h
 | [],_=>rfl
 | x::xs,st=>by
  obtain⟨e1,e2⟩:=st x List.mem_cons_self
  have ih:=comp_map enc p g xs fun y hy=>st y (List.mem_cons_of_mem _ hy)
  rw[List.map_cons,cj,e1,aZ]
  cases hp:p x with
  | false=>rw[if_neg Bool.false_ne_true,ih,List.filter_cons_of_neg (by simp[hp])]
  | true=>rw[if_pos rfl,e2 hp,aZ,ih,aZ,List.filter_cons_of_pos hp,List.map_cons]
theorem j8 {X:Type} {te:ME} {ee:D->En} (enc:X->D) (g:X->D) (xs:List X) (st:∀x∈xs,te (ee (enc x)) h=.ok (g x) h):cj tt1 te ee (xs.map enc) h=.ok (xs.map g) h:=by
 have:=comp_map (tt:=tt1) (ee:=ee) (h:=h) enc (fun _=>true) g xs fun x hx=>⟨rfl,fun _=>st x hx⟩
 rw[List.filter_eq_self.mpr fun _ _=>rfl] at this
 exact this
theorem t4 (n:Nat):bL 0 n=(List.range n).map fun(i:Nat)=>D.int i:=by
 unfold bL
 apply List.map_congr_left
 intro i _
 rw[Int.zero_add]
theorem uM {n:Nat} {tt:MT} {te:ME} {ee:D->En} (p:Nat->Bool) (g:Nat->D) (st:∀i,i<n->tt (ee (.int (i:Nat))) h=.ok (p i) h/\(p i=true->te (ee (.int (i:Nat))) h=.ok (g i) h)) :
  cj tt te ee (bL 0 n) h=.ok (((List.range n).filter p).map g) h:=by
 rw[t4,comp_map (fun(i:Nat)=>D.int i) p g (List.range n) fun i hi=>st i (List.mem_range.mp hi)]
theorem lG {σ X:Type} {te:ME} {ee:D->En} (G:σ->Hh) (enc:X->D) (f:σ->X->σ) (g:σ->X->D) (I:List X->σ->Prop) (st:∀s x r,I (x::r) s->I r (f s x)/\te (ee (enc x)) (G s)=.ok (g s x) (G (f s x))) :
  ∀(xs:List X) (s:σ),I xs s->∃ys,cj tt1 te ee (xs.map enc) (G s)=.ok ys (G (xs.foldl f s))/\I [] (xs.foldl f s)/\ys=(xs.foldl (fun(a:σ × List D) x=>(f a.1 x,a.2++[g a.1 x])) (s,[])).2
 | [],s,i=>⟨[],rfl,i,rfl⟩
 | x::xs,s,i=>by
  obtain⟨i1,e⟩:=st s x xs i
  obtain⟨ys,e2,i2,e3⟩:=lG G enc f g I st xs (f s x) i1
  refine⟨g s x::ys,?_,i2,?_⟩
  ·rw[List.map_cons,cj,zq,aZ,if_pos rfl,e,aZ,e2];rfl
  ·rw[List.foldl_cons,e3]
   have key:∀(xs:List X) (s:σ) (a b:List D),(xs.foldl (fun(a:σ × List D) x=>(f a.1 x,a.2++[g a.1 x])) (s,a++b)).2=a++(xs.foldl (fun(a:σ × List D) x=>(f a.1 x,a.2++[g a.1 x])) (s,b)).2:=by
    intro xs
    induction xs with
    | nil=>intro s a b;rfl
    | cons x xs ih=>intro s a b;rw[List.foldl_cons,List.foldl_cons,List.append_assoc];exact ih _ _ _
   have:=key xs (f s x) [g s x] []
   simpa using this.symm
noncomputable def Wf (h:Hh):Prop:=h.all (gD h.length)=true
mutual
theorem sV {j k:Nat} (h:j<=k):∀(d:D),gW j d=true->gW k d=true
 | .non,_=>rfl | .bl _,_=>rfl | .int _,_=>rfl | .str _,_=>rfl | .fn _,_=>rfl | .edic,_=>rfl | .exc _ _,_=>rfl
 | .ref n,e=>by simp only[gW,decide_eq_true_eq] at e ⊢;omega
 | .tup ds,e=>by simp only[gW] at e ⊢;exact cq h ds e
 | .frl ds,e=>by simp only[gW] at e ⊢;exact cq h ds e
 | .scr ds,e=>by simp only[gW] at e ⊢;exact cq h ds e
theorem cq {j k:Nat} (h:j<=k):∀(ds:List D),bU j ds=true->bU k ds=true
 | [],_=>rfl
 | d::ds,e=>by
  simp only[bU,Bool.and_eq_true] at e ⊢
  exact⟨sV h d e.1,cq h ds e.2⟩
end
theorem ug {j k:Nat} (h:j<=k) (o:O) (e:gD j o=true):gD k o=true:=by
 cases o with
 | lst ds=>exact cq h ds e
 | set n=>rfl
 | dic kvs=>exact cq h _ e
 | dit kvs=>exact cq h _ e
theorem lU {k:Nat}:∀{ds:List D},(∀d∈ds,gW k d=true)->bU k ds=true
 | [],_=>rfl
 | d::ds,h=>by simp only[bU,Bool.and_eq_true];exact⟨h d List.mem_cons_self,lU fun e he=>h e (List.mem_cons_of_mem _ he)⟩
@[simp] theorem iK {X:Type} {k:Nat} {f:X->D} {xs:List X} (h:∀x,gW k (f x)=true):bU k (xs.map f)=true:=lU fun d hd=>by
 obtain⟨x,_,rfl⟩:=List.mem_map.mp hd;exact h x
@[simp] theorem rk {k:Nat} {ns:List Int}:bU k (ns.map D.int)=true:=iK fun _=>rfl
theorem Wf.nil:Wf []:=rfl
theorem Wf.app {h:Hh} {o:O} (w:Wf h) (l:gD (h.length+1) o=true):Wf (h++[o]):=by
 unfold Wf at w ⊢
 rw[List.all_append,List.length_append,List.length_singleton]
 simp only[List.all_cons,List.all_nil,Bool.and_true,Bool.and_eq_true]
 refine⟨?_,l⟩
 rw[List.all_eq_true] at w ⊢
 exact fun x hx=>ug (Nat.le_succ _) x (w x hx)
noncomputable def deep:Nat->D->Bool
 | 0,_=>false
 | f+1,d=>match d with
  | .ref _=>false
  | .scr _=>false
  | .tup ds=>ds.all (deep f)
  | .frl ds=>ds.all (deep f)
  | _=>true
theorem jN {f:D->Option D}:∀{ds:List D},(∀d∈ds,f d=some d)->iG f ds=some ds
 | [],_=>rfl
 | d::ds,h=>by simp only[iG,h d List.mem_cons_self,jN fun e he=>h e (List.mem_cons_of_mem _ he)]
theorem fM {k:Nat} {h:Hh}:∀(f:Nat) (d:D),deep f d=true->d_ k h f d=some d
 | 0,_,e=>by cases e
 | f+1,d,e=>by
  unfold deep at e
  unfold d_
  cases d with
  | ref n=>cases e
  | scr n=>cases e
  | tup ds=>simp only[List.all_eq_true] at e;show Option.map D.tup (iG (d_ k h f) ds)=_;rw[jN (f:=d_ k h f) fun d hd=>fM f d (e d hd)];rfl
  | frl ds=>simp only[List.all_eq_true] at e;show Option.map D.frl (iG (d_ k h f) ds)=_;rw[jN (f:=d_ k h f) fun d hd=>fM f d (e d hd)];rfl
  | _=>rfl
theorem dy {d:D} {t:Hh} (w:Wf h) (e:deep 8 d=true):bZ h d (h++t)=.ok d h:=by
 unfold bZ
 rw[List.take_left' rfl,if_pos (show h.all (gD h.length)=true from w),fM 8 d e]
theorem pJ {d:D} (w:Wf h) (e:deep 8 d=true):bZ h d h=.ok d h:=by
 have:=dy (t:=[]) w e
 simpa using this
theorem l_ {ds:List D} {t:Hh} (w:Wf h) (e:ds.all (deep 7)=true):bZ h (.ref h.length) (h++.lst ds::t)=.ok (.frl ds) h:=by
 unfold bZ
 rw[List.take_left' rfl,if_pos (show h.all (gD h.length)=true from w)]
 have:d_ h.length (h++.lst ds::t) 8 (.ref h.length)=some (.frl ds):=by
  unfold d_
  simp only[Nat.lt_irrefl,if_false,cF]
  rw[List.all_eq_true] at e
  rw[jN fun d hd=>fM 7 d (e d hd)];rfl
 rw[this]
@[simp] theorem Ds {f:Nat} {i:Int}:deep (f+1) (.int i)=true:=rfl
@[simp] theorem DM {f:Nat} {i:Bool}:deep (f+1) (.bl i)=true:=rfl
@[simp] theorem CM {f:Nat} {i:Str}:deep (f+1) (.str i)=true:=rfl
@[simp] theorem CQ {f:Nat}:deep (f+1) .non=true:=rfl
@[simp] theorem BO {f:Nat}:deep (f+1) .edic=true:=rfl
@[simp] theorem Cm {f:Nat} {ds:List D}:deep (f+1) (.tup ds)=ds.all (deep f):=rfl
@[simp] theorem Ck {f:Nat} {ds:List D}:deep (f+1) (.frl ds)=ds.all (deep f):=rfl
end
noncomputable def Ok {β:Type} (r:R β) (Q:β->Hh->Prop):Prop:=∃b h,r=.ok b h/\Q b h
section
variable {β γ:Type} {Q:β->Hh->Prop} {h h1 h2:Hh}
theorem Ok.mono {r:R β} {Q':β->Hh->Prop} (o:Ok r Q) (q:∀b h,Q b h->Q' b h):Ok r Q':=let ⟨b,h,e,z⟩:=o;⟨b,h,e,q b h z⟩
end
theorem mV {X:Type} {tg:D->En->Hh->R En} {body:MS} {QS:Fl->Hh->Prop} (enc:X->D) (I:En->Hh->Prop) :
  ∀(xs:List X) (env:En) (h:Hh),I env h->(∀x e h,x∈xs->I e h->Ok ((tg (enc x) e h).bind body) fun fl h2=>match fl with
   | .nx e=>I e h2
   | .ct e=>I e h2
   | .bk e=>QS (.nx e) h2
   | .rt d=>QS (.rt d) h2)->(∀e h,I e h->QS (.nx e) h)->Ok (cS tg body (xs.map enc) env h) QS
 | [],env,h,i,_,q=>⟨_,_,rfl,q _ _ i⟩
 | x::xs,env,h,i,st,q=>by
  obtain⟨fl,h2,e,z⟩:=st x env h List.mem_cons_self i
  rw[List.map_cons,cS,<- bp,e,aZ]
  cases fl with
  | nx e'=>exact mV enc I xs e' h2 z (fun y e h hy=>st y e h (List.mem_cons_of_mem _ hy)) q
  | ct e'=>exact mV enc I xs e' h2 z (fun y e h hy=>st y e h (List.mem_cons_of_mem _ hy)) q
  | bk e=>exact⟨_,_,rfl,z⟩
  | rt d=>exact⟨_,_,rfl,z⟩
end L2.FE
namespace L2.FE
open PySem PySem.Spec PyProof.Rows
noncomputable def zK (h:Hh) (n:Nat):Option (List (Key × D)):=match h[n]? with
 | some (.dic kvs)=>some kvs
 | _=>none
noncomputable abbrev PD (K:PySem.W.Frag) (g:GG) (α:List Addr) (H:Hp):List (Key × D)->List (Key × V)->Prop:=Paired (fun(a:Key × D) (b:Key × V)=>a.1=b.1/\aC K g α H a.2 b.2)
section
variable {K:PySem.W.Frag} {g:GG} {α:List Addr} {H:Hp} {h:Hh}
theorem aM.dic {n:Nat} {p:Addr} {kvs:List (Key × D)} (r:aM K g α H h) (e:zK h n=some kvs) (hp:α[n]?=some p):∃kws,H p=some (.dK kws)/\PD K g α H kvs kws:=by
 unfold zK at e
 cases eo:h[n]? with
 | none=>rw[eo] at e;cases e
 | some o=>
  rw[eo] at e
  cases o with
  | dic k=>cases e;exact r.here n p _ hp eo
  | _=>cases e
theorem PD.ext {α':List Addr} {H':Hp} {kvs:List (Key × D)} {kws:List (Key × V)} (e:Ext K α H α' H') (r:PD K g α H kvs kws):PD K g α' H' kvs kws:=Paired.Cz e.toEx0 r
theorem aB.dic {Q:VK} {kvs:List (Key × D)} {kws:List (Key × V)} {p:Addr} (w:aB K g α H Q (.ref h.length) (h++[.dic kvs])) (r:aM K g α H h) (rs:PD K g α H kvs kws) (hp:H p=none):Q (.ref p) (upd H p (.dK kws)):=by
 have x:=Ext.push (K:=K) (α:=α) (o:=.dK kws) hp
 exact w _ _ _ x (r.push hp ⟨_,aJ,rs.ext x⟩) (.ref (by rw[<- r.len];simp))
end
section
variable {X:Cx} {g:GG} {ε:EE} {o i e f:Expr} {mo mi me mf:ME} {pos:Pos}
theorem yP:PE X (.Dict [] [] pos) (tM X.K g ε (cC .edic)):=
 PE.imp (PE.frz uX) fun σ H Q ⟨α,env,h,s,w⟩ p hp=>by
  refine .inr ⟨p,_,rfl,aJ,trivial,fun o=>?_⟩
  rw[yW]
  exact(show aB X.K g α H Q .edic h from w) _ _ α (Ext.fresh hp) (s.heap.grow hp) (.edic aJ)
end
end L2.FE
namespace L2
open PySem PySem.Spec PyProof.Rows
theorem wL (o:Obj) (f:Array Value->Array Value):(Obj.mapFields f o).cls=o.cls:=Obj.cls_mapFields _ _
theorem t5 (o:Obj) (f:Array Value->Array Value):(Obj.mapFields f o).dict=o.dict:=by
 unfold Obj.mapFields
 split<;>rfl
structure Gn (h h':Heap):Prop where
 up:h.UpToSlots h'
 there:∀b o,h.get? b=some o->∃o',h'.get? b=some o'
theorem Gn.trans {h h1 h2:Heap} (a:Gn h h1) (b:Gn h1 h2):Gn h h2:=⟨a.up.trans b.up,fun c o q=>let ⟨_,q'⟩:=a.there c o q;b.there c _ q'⟩
structure Fly (B:Heap) (l:List Env) (e:Addr) (C:Value) (dc:Option Addr) (fl:Value) (h:Heap):Prop where
 stays:B.StaysIn h
 new:B.get? e=none
 fr:h.FunFrames B l
 obj:∃oe ws T oT ts,h.get? e=some oe/\oe.cls=C/\oe.dict=dc/\oe.data=.fields ws/\ws[1]?=some (.ref T)/\B.get? T=none/\T≠e/\h.get? T=some oT/\oT.data=.fields ts/\ts[3]?=some fl
theorem Fly.pop {B:Heap} {env:Env} {l:List Env} {e:Addr} {C:Value} {dc:Option Addr} {fl:Value} {h:Heap} (x:Fly B (env::l) e C dc fl h):Fly B l e C dc fl h:=
 ⟨x.stays,x.new,x.fr.2.2,x.obj⟩
theorem Fly.there {B:Heap} {l:List Env} {e:Addr} {C:Value} {dc:Option Addr} {fl:Value} {h:Heap} (x:Fly B l e C dc fl h):∃oe ws,h.get? e=some oe/\oe.cls=C/\oe.dict=dc/\oe.data=.fields ws:=by
 obtain⟨oe,ws,T,oT,ts,a,b,c,d,_⟩:=x.obj
 exact⟨oe,ws,a,b,c,d⟩
section
variable {M:Model} {A:Around} {E:Value->Shared->Prop} {s:Shared} {B:Heap} {env:Env} {l outer:List Env} {e L:Addr} {C:Value} {dc:Option Addr} {fl:Value} {Q:Unit->Shared->Prop}
theorem mY (x:Fly B l e C dc fl s.heap) (k:∀h',Fly B l e C dc .none h'->Gn s.heap h'->Q () { s with heap:=h' }):wpAny M A (setFlight (.ref e) none) Q E s:=by
 obtain⟨st,nw,fr,oe,ws,T,oT,ts,q1,q2,q3,q4,q5,q6,q7,q8,q9,q10⟩:=x
 have hlt:3<ts.size:=(Array.getElem?_eq_some_iff.mp q10).1
 have off:∀b,b≠T->(s.heap.update T (Obj.mapFields (·.setIfInBounds 3 ((none:Option Addr).elim Value.none fun f=>rawInt f)))).get? b=s.heap.get? b:=fun b z=>Heap.get?_update_other _ _ (Ne.symm z)
 have noF:∀b o,s.heap.get? b=some o->(∀vs,o.data≠.fields vs)->b≠T:=by
  rintro b o q n rfl
  rw[q8] at q;cases q;exact n ts q9
 unfold setFlight
 refine wpAny_bind (wpAny_field q1 q4 q5 ?_)
 rw[if_pos (by simp:(Value.ref T != Value.none)=true)]
 refine wpAny_setField q8 q9 hlt (k _ ⟨fun b o q=>(off b ?_).trans (st b o q),nw,fr.of_keeps fun b o q n=>⟨o,(off b (noF b o q n)).trans q,rfl⟩,oe,ws,T,_,_,(off e (Ne.symm q7)).trans q1,q2,q3,q4,q5,q6,q7,Heap.get?_update_self _ q8 (Obj.isFreed_of_fields (Obj.data_mapFields q9 _)),Obj.data_mapFields q9 _,by simp[hlt]⟩
  ⟨fun b o q n=>⟨o.slots,(off b (noF b o q n)).trans q⟩,fun b o q=>?_⟩)
 ·rintro rfl;rw[q6] at q;cases q
 ·by_cases z:b=T
  ·subst z;exact⟨_,Heap.get?_update_self _ q8 (Obj.isFreed_of_fields (Obj.data_mapFields q9 _))⟩
  ·exact⟨o,(off b z).trans q⟩
theorem lI {head:Value} {had:Bool} {oe:Obj} {ws:Array Value} (hA:A.frames=some (env::outer)) (fr:s.heap.FunFrames B (env::outer)) (hL:env.frame=some L) (q1:s.heap.get? e=some oe) (st:B.StaysIn s.heap) (nw:B.get? e=none) (q4:oe.data=.fields ws) (hlt:1<ws.size)
  (k:∀h',Fly B (env::outer) e oe.cls oe.dict (rawInt L) h'->Gn s.heap h'->Q () { s with heap:=h' }) :
  wpAny M A (do let fo ← frameOf env;let pl ← entryPlaceOf L had;let t ← EntryCells.newEntry head fo .none (rawInt L) .none pl;setField (.ref e) 1 t) Q E s:=by
 have hnf:e∉(env::outer).filterMap (·.frame):=fun z=>by
  obtain⟨_,o,ho,n⟩:=fr.mem z
  rw[q1] at ho;cases ho;exact n ws q4
 refine wpAny_bind (wpAny_frameOf_fun hA fr hL fun h1 so=>wpAny_bind (wpAny_entryPlaceOf fun pl hpl=>?_))
 obtain⟨z1,z2,z3⟩:=so
 unfold EntryCells.newEntry newFields
 refine wpAny_bind (wpAny_newObj_type ?_ (hpl.sizeOk5 _ _ _ _ _))
 have e1:h1.get? e=some oe:=by rw[z2 e hnf];exact q1
 have st1:B.StaysIn h1:=fun b o q=>by
  rw[z2 b fun z=>by rw[(fr.mem z).1] at q;cases q]
  exact st b o q
 generalize hT:({ cls:=.type "traceback", dict:=none,data:=.fields ([head,.ref L,.none,rawInt L,.none]++(if pl.isEmpty then List.replicate 6 Value.none else pl)).toArray }:Obj)=oT
 have e2:(h1.push oT).get? e=some oe:=Heap.get?_push_of_some _ e1
 have dT:oT.data=.fields ([head,.ref L,.none,rawInt L,.none]++(if pl.isEmpty then List.replicate 6 Value.none else pl)).toArray:=by rw[<- hT]
 have ne:h1.objs.size≠e:=Nat.ne_of_gt (Heap.lt_size e1)
 refine wpAny_setField e2 q4 hlt (k _ ?_ ?_)
 ·have off:∀b o,b≠e->h1.get? b=some o->((h1.push oT).update e (Obj.mapFields (·.setIfInBounds 1 (Value.ref h1.objs.size)))).get? b=some o:=fun b o n q=>by
   rw[Heap.get?_update_other _ _ (Ne.symm n)]
   exact Heap.get?_push_of_some _ q
  have noF:∀b o,h1.get? b=some o->(∀vs,o.data≠.fields vs)->b≠e:=by
   rintro b o q n rfl
   rw[e1] at q;cases q;exact n ws q4
  refine⟨fun b o q=>off b o ?_ (st1 b o q),nw,?_,_,_,h1.objs.size,oT,_,Heap.get?_update_self _ e2 (Obj.isFreed_of_fields (Obj.data_mapFields q4 _)),wL _ _,t5 _ _,Obj.data_mapFields q4 _,by simp[hlt],?_,ne,?_,dT,?_⟩
  ·rintro rfl;rw[nw] at q;cases q
  ·exact fr.of_keeps fun b o q n=>by
    obtain⟨sl,q'⟩:=z3 b o q
    exact⟨_,off b _ (noF b _ q' n) q',rfl⟩
  ·cases q:B.get? h1.objs.size with
   | none=>rfl
   | some o=>exact absurd (Heap.lt_size (st1 _ _ q)) (Nat.lt_irrefl _)
  ·rw[Heap.get?_update_other _ _ (Ne.symm ne)]
   rw[<- hT]
   exact Heap.get?_push_size h1 rfl
  ·first | (simp;done) | (rcases hpl with rfl | ⟨_,_,_,_,_,_,_,rfl⟩<;>simp)
 ·refine⟨fun b o q n=>?_,fun b o q=>?_⟩
  ·obtain⟨sl,q'⟩:=z3 b o q
   refine⟨sl,?_⟩
   rw[Heap.get?_update_other _ _ ?_]
   ·exact Heap.get?_push_of_some _ q'
   ·rintro rfl
    rw[q1] at q;cases q;exact n ws q4
  ·obtain⟨sl,q'⟩:=z3 b o q
   by_cases z:b=e
   ·subst z;exact⟨_,Heap.get?_update_self _ e2 (Obj.isFreed_of_fields (Obj.data_mapFields q4 _))⟩
   ·exact⟨_,by rw[Heap.get?_update_other _ _ (Ne.symm z)];exact Heap.get?_push_of_some _ q'⟩
theorem sS {oe:Obj} {ws:Array Value} (hA:A.frames=some (env::outer)) (fr:s.heap.FunFrames B (env::outer)) (hL:env.frame=some L) (q1:s.heap.get? e=some oe) (st:B.StaysIn s.heap) (nw:B.get? e=none) (q4:oe.data=.fields ws) (q5:ws[1]?=some .none)
  (k:∀h',Fly B (env::outer) e oe.cls oe.dict (rawInt L) h'->Gn s.heap h'->Q () { s with heap:=h' }):wpAny M A (noteFrame (.ref e) env) Q E s:=by
 unfold noteFrame
 simp only[hL]
 refine wpAny_bind (wpAny_field q1 q4 q5 ?_)
 rw[if_neg (by decide)]
 exact lI hA fr hL q1 st nw q4 (Array.getElem?_eq_some_iff.mp q5).1 k
theorem ux (hA:A.frames=some (env::outer)) (hL:env.frame=some L) (x:Fly B (env::outer) e C dc .none s.heap)
  (k:∀h',Fly B (env::outer) e C dc (rawInt L) h'->Gn s.heap h'->Q () { s with heap:=h' }):wpAny M A (noteFrame (.ref e) env) Q E s:=by
 obtain⟨st,nw,fr,oe,ws,T,oT,ts,q1,q2,q3,q4,q5,q6,q7,q8,q9,q10⟩:=x
 have off:∀b,b≠T->(s.heap.update T (Obj.mapFields (·.setIfInBounds 3 Value.none))).get? b=s.heap.get? b:=fun b z=>Heap.get?_update_other _ _ (Ne.symm z)
 have noF:∀b o,s.heap.get? b=some o->(∀vs,o.data≠.fields vs)->b≠T:=by
  rintro b o q n rfl
  rw[q8] at q;cases q;exact n ts q9
 unfold noteFrame
 simp only[hL]
 refine wpAny_bind (wpAny_field q1 q4 q5 ?_)
 rw[if_pos (by simp:(Value.ref T != Value.none)=true)]
 refine wpAny_bind (wpAny_field q8 q9 q10 ?_)
 rw[if_neg (by simp[rawInt]:¬ ((Value.none == rawInt L)=true))]
 refine wpAny_bind (wpAny_setField q8 q9 (Array.getElem?_eq_some_iff.mp q10).1 ?_)
 refine lI (B:=B) (oe:=oe) hA (fr.of_keeps fun b o q n=>⟨o,(off b (noF b o q n)).trans q,rfl⟩) hL ((off e (Ne.symm q7)).trans q1) (fun b o q=>(off b ?_).trans (st b o q)) nw q4 (Array.getElem?_eq_some_iff.mp q5).1 fun h' y u=>?_
 ·rintro rfl;rw[q6] at q;cases q
 ·subst q2 q3
  refine k h' y ⟨fun b o q n=>u.up b o ((off b (noF b o q n)).trans q) n,fun b o q=>?_⟩
  by_cases z:b=T
  ·subst z;exact u.there _ _ (Heap.get?_update_self _ q8 (Obj.isFreed_of_fields (Obj.data_mapFields q9 _)))
  ·exact u.there b o ((off b z).trans q)
end
theorem zQ {P:Program} {w:World} {H:Hp} {h:Heap} {a:Addr} {o:HO} (x:br P w H h a o):∃u,h.get? a=some u:=by
 cases o with
 | lst xs=>obtain⟨_,_,_,_,e⟩:=x;exact⟨_,e⟩
 | tup xs=>obtain⟨_,_,_,ob,e,_⟩:=x;exact⟨_,e⟩
 | dK kvs=>obtain⟨_,_,_,_,o,_,_,e,_⟩:=x;exact⟨_,e⟩
 | dT kvs=>obtain⟨_,_,_,_,o,_,_,e,_⟩:=x;exact⟨_,e⟩
 | set S n=>obtain⟨o,_,_,_,e,_⟩:=x;exact⟨_,e⟩
 | ins C dx fs=>obtain⟨_,_,_,e,_⟩:=x;exact⟨_,e⟩
 | own y=>exact x
 | xd fs=>obtain⟨_,⟨_,_,_,e,_⟩,_⟩:=x;exact⟨_,e⟩
 | rng lo hi=>obtain⟨_,_,_,e⟩:=x;exact⟨_,e⟩
 | frz ob u=>obtain⟨e,_⟩:=x;exact⟨_,e⟩
 | tbl ps=>exact⟨_,(show h.get? a=some _ from x)⟩
 | met f y=>exact⟨_,(show h.get? a=some _ from x)⟩
 | ext φ=>obtain⟨_,e,_⟩:=x;exact e
noncomputable def Arr (B:Heap) (l:List Env) (e:Addr) (C:Value) (dc:Option Addr) (h:Heap):Prop:=
 (B.StaysIn h/\B.get? e=none/\h.FunFrames B l/\∃oe ws,h.get? e=some oe/\oe.cls=C/\oe.dict=dc/\oe.data=.fields ws/\ws[1]?=some .none)\/Fly B l e C dc .none h
theorem Arr.stays {B:Heap} {l:List Env} {e:Addr} {C:Value} {dc:Option Addr} {h:Heap} (x:Arr B l e C dc h):B.StaysIn h:=x.elim (·.1) (·.stays)
theorem Arr.new {B:Heap} {l:List Env} {e:Addr} {C:Value} {dc:Option Addr} {h:Heap} (x:Arr B l e C dc h):B.get? e=none:=x.elim (·.2.1) (·.new)
theorem Arr.fr {B:Heap} {l:List Env} {e:Addr} {C:Value} {dc:Option Addr} {h:Heap} (x:Arr B l e C dc h):h.FunFrames B l:=x.elim (·.2.2.1) (·.fr)
section
variable {M:Model} {A:Around} {E:Value->Shared->Prop} {s:Shared} {B:Heap} {env:Env} {outer:List Env} {e L:Addr} {C:Value} {dc:Option Addr} {Q:Unit->Shared->Prop}
theorem p0 (hA:A.frames=some (env::outer)) (hL:env.frame=some L) (x:Arr B (env::outer) e C dc s.heap)
  (k:∀h',Fly B (env::outer) e C dc (rawInt L) h'->Gn s.heap h'->Q () { s with heap:=h' }):wpAny M A (noteFrame (.ref e) env) Q E s:=by
 rcases x with⟨st,nw,fr,oe,ws,q1,rfl,rfl,q4,q5⟩ | x
 ·exact sS hA fr hL q1 st nw q4 q5 k
 ·exact ux hA hL x k
theorem tL (hA:A.frames=some (env::outer)) (hL:env.frame=some L) (x:Arr B (env::outer) e C dc s.heap)
  (k:∀h',Fly B outer e C dc .none h'->Gn s.heap h'->Q () { s with heap:=h' }):wpAny M A (leaving env (.ref e)) Q E s:=by
 unfold leaving
 exact wpAny_bind (p0 hA hL x fun h1 x1 u1=>mY x1 fun h2 x2 u2=>k h2 x2.pop (u1.trans u2))
end
structure Cov (B:Heap) (fs:List Addr) (aS:Hp) (h₀:Heap) (H':Hp):Prop where
 trk:∀b o,H' b=some o->∃u,B.get? b=some u
 old:∀b o,h₀.get? b=some o->aS b=none->b∉fs->B.get? b=some o
noncomputable def CXE (P:Program) (w:World):CXT:=fun outer H s E e s'=>∃(H':Hp) (B:Heap) (a:Addr) (C:Value) (dc:Option Addr),e=.ref a/\s'.os=s.os/\AllBare s'.gens/\Un (frs outer) [] H H' s.heap s'.heap/\HOk P w H' s'.heap/\Fly B outer a C dc .none s'.heap/\Cov B (frs outer) H s.heap H'/\E C dc H'
noncomputable def XeB (X:Cx) (E:XK) (e:Value) (s':Shared):Prop:=∃(σ:St) (H':Hp) (B:Heap) (a:Addr) (C:Value) (dc:Option Addr),e=.ref a/\Inv X [] σ H' s'/\Arr B X.stack a C dc s'.heap/\Cov B X.fs X.aS X.aH.heap H'/\(∀p∈X.pn,B.get? p.1=some p.2)/\E C dc H'
noncomputable def h7 (X:Cx) (E:XK):Prop:=∀e s',XeB X E e s'->X.xe e s'
structure Plain (X:Cx):Prop where
 ex:X.ex=[]
 stk:X.stack=X.env::X.outer/\X.env.frame=some X.env.locals
theorem HOk.flew {P:Program} {w:World} {H':Hp} {B h h':Heap} (x:HOk P w H' h) (tr:∀b o,H' b=some o->∃u,B.get? b=some u) (st:B.StaysIn h) (st':B.StaysIn h'):HOk P w H' h':=fun a o e=>
 (x a o e).g_ (fun b u hb q=>by
  obtain⟨u',q'⟩:∃u,B.get? b=some u:=by
   rcases hb with rfl | hb
   ·exact tr _ _ e
   ·exact tr _ _ hb
  have:=st _ _ q'
  rw[q] at this;cases this
  exact st' _ _ q') (fun _ q=>q) fun _ _ q=>q
theorem Inv.drop {X:Cx} {pins:List (Addr × Obj)} {σ:St} {H:Hp} {s:Shared} (I:Inv X pins σ H s):Inv X [] σ H s:=
 ⟨I.ok,I.os,I.bare,I.base,I.loc,I.cell,I.free,I.cD,fun p hp=>I.pin p (by simp only[List.append_nil] at hp;exact List.mem_append_left _ hp),I.hok,I.len⟩
theorem sJ {fs:List Addr} {aS H':Hp} {B h₀ h h':Heap} (u:Un fs [] aS H' h₀ h) (c:Cov B fs aS h₀ H') (st':B.StaysIn h') (g:Gn h h') (nf:∀b∈fs,∀o,h.get? b=some o->∀vs,o.data≠.fields vs):Un fs [] aS H' h₀ h':=
 ⟨fun b o e n hb _=>st' b o (c.old b o e n hb),fun b o e n hb hx=>by
  obtain⟨sl,q⟩:=u.slot b o e n hb hx
  obtain⟨sl',q'⟩:=g.up b _ q (nf b hb _ q)
  exact⟨sl',q'⟩,u.free,fun b o e hx=>by
  obtain⟨o',q⟩:=u.there b o e hx
  exact g.there b o' q,u.lg,u.kf,u.lu⟩
theorem Inv.flew {X:Cx} {σ:St} {H':Hp} {s':Shared} {B h':Heap} {t':Nat} (I:Inv X [] σ H' s') (p:Plain X) (c:Cov B X.fs X.aS X.aH.heap H') (pn:∀p∈X.pn,B.get? p.1=some p.2) (st:B.StaysIn s'.heap) (fr:s'.heap.FunFrames B X.stack) (st':B.StaysIn h') (g:Gn s'.heap h'):Inv X [] σ H' { s' with heap:=h',toks:=t' }:=by
 have cellK:∀{c':Addr} {v:Option Value},s'.heap.IsCell c' v->h'.IsCell c' v:=fun{c' v} ⟨o,ho,hd⟩=>by
  obtain⟨sl,q⟩:=g.up c' o ho fun vs z=>by rw[hd] at z;cases z
  exact⟨_,q,hd⟩
 refine⟨I.ok,I.os,I.bare,?_,?_,fun x c' e=>let ⟨v,q⟩:=I.cell x c' e;⟨v,cellK q⟩,I.free,I.cD,fun q hq=>?_,I.hok.flew c.trk st st',I.len⟩
 ·have u:=I.base
  rw[p.ex] at u ⊢
  refine sJ u c st' g fun b hb o q vs z=>?_
  have:b∈X.stack.filterMap (·.frame):=by
   rw[p.stk.1,List.filterMap_cons,p.stk.2]
   exact List.mem_cons_of_mem _ hb
  obtain⟨_,o',q',n⟩:=fr.mem this
  rw[q] at q';cases q';exact n vs z
 ·obtain⟨m,hn,k⟩:=I.loc
  refine⟨m,g.up.ns hn,fun i x v a b c=>?_⟩
  obtain⟨u,r,l⟩:=k i x v a b c
  refine⟨u,r,l.imp (fun z=>z) fun⟨z,c',e,q⟩=>⟨z,c',e,cellK q⟩⟩
 ·have:=I.pin q hq
  rw[List.append_nil] at hq
  exact⟨st' _ _ (pn q hq),this.2⟩
section
variable {P:Program} {w:World} {K:PySem.W.Frag} {mg:Str->Option Value} {base:Heap}
theorem tJ {N:List Str} {qual:Str} {scope:Scope} {f:Addr} {cd:Value} {A:Around} {outer:List Env} {s:Shared} {H:Hp} {E:XK}:h7 (gr (CXE P w) P w K mg base N qual scope f cd A outer s H E) E:=by
 rintro e s' ⟨σ,H',B,a,C,dc,rfl,I,ar,c,_,q⟩
 have fr:=ar.fr
 have hA:(gr (CXE P w) P w K mg base N qual scope f cd A outer s H E).A.frames=some (envOfC qual scope s.heap.objs.size f cd::outer):=I.ok.frames
 refine tL hA rfl ar fun h' x g=>?_
 refine⟨H',B,a,C,dc,rfl,I.os,I.bare,sJ (show Un (frs outer) [] H H' s.heap s'.heap from I.base) c x.stays g fun b hb o q vs z=>?_,I.hok.flew c.trk ar.stays x.stays,x,c,q⟩
 have:b∈(envOfC qual scope s.heap.objs.size f cd::outer).filterMap (·.frame):=List.mem_cons_of_mem _ hb
 obtain⟨_,o',q',n⟩:=(show s'.heap.FunFrames B (envOfC qual scope s.heap.objs.size f cd::outer) from fr).mem this
 rw[q] at q';cases q';exact n vs z
end
theorem qK {X:Cx} {E:XK} (p:Plain X) (fl:h7 X E):Passes (CXE X.prog X.w) X E:=by
 rintro pins σ H s e s' I ⟨H',B,a,C,dc,rfl,os,bare,un,hok,x,c,q⟩
 refine fl _ _ ⟨σ,H',B,a,C,dc,rfl,(I.pR os un hok bare fun b z=>absurd z (by simp)).drop,.inr x,⟨c.trk,fun b o e n hb=>?_⟩,fun p' hp=>?_,q⟩
 rotate_left
 ·obtain⟨q1,q2,q3,q4,q5⟩:=I.pin p' (List.mem_append_left _ hp)
  refine c.old _ _ q1 q2 fun z=>?_
  rcases List.mem_cons.mp (I.e_ _ z) with z | z
  ·exact q3 z
  ·exact q4 z
 have hx:b∉X.ex:=by rw[p.ex];simp
 refine c.old b o (I.base.keep b o e n hb hx) (I.base.free b o e n hx) fun z=>?_
 rcases List.mem_cons.mp (I.e_ b z) with rfl | z
 ·exact absurd (Heap.lt_size e) (Nat.not_lt_of_le I.ok.above)
 ·exact hb z
noncomputable abbrev bmV:List Value:=[.type "ValueError", .type "Exception", .type "BaseException", .type "object"]
end L2
namespace L2.FE
open PySem PySem.Spec PyProof.Rows
noncomputable def εX (g:GG) (E:XK):EE:=fun _ H' x=>∀(C:Addr) (dc:Option Addr),g x.cls=some C->XFs H' dc x.fs->E (.ref C) dc H'
noncomputable abbrev spE (K:PySem.W.Frag) (g:GG) (np:Nat) (m:MF):Sp:=spG K g (εX g) np m
noncomputable def Cg (P:Program) (w:World) (K:PySem.W.Frag) (mg:Str->Option Value) (base:Heap) (g:GG) (x:Str) (k:Nat) (ps:List Str) (m:MF):Prop:=
 ∃f fd,dq P w K mg base (CXE P w) k f fd ps (spE K g ps.length m)/\PySem.W.keepIn K (.ref f)=true/\Binds K fd ps []/\mg x=some (.ref f)
noncomputable def noR {β:Type}:R β->R β
 | .ok b h=>.ok b h
 | _=>.bad
@[simp] theorem Es {β:Type} (b:β) (h:Hh):noR (.ok b h)=.ok b h:=rfl
noncomputable def up {β:Type} (m:En->Hh->R β):En->Hh->R β:=fun env h=>noR (m env h)
theorem nk {K:PySem.W.Frag} {g:GG} {ε:EE} {α:List Addr} {H:Hp} {β:Type} {r:R β} {k:β->Hh->Prop} (w:WQ K g ε α H (noR r) k):WQ K g E00 α H r k:=by
 cases r with
 | ok b h=>exact w
 | err x h=>exact w.elim
 | bad=>exact w.elim
section
variable {P:Program} {w:World} {K:PySem.W.Frag} {mg:Str->Option Value} {base:Heap} {g:GG}
theorem BS {x qual:Str} {st:Stmt} {f:Addr} {fd:FuncData} {N ps:List Str} {k:Nat} {mb:MS} (F:Fun K x qual st f fd) (S:aP N ps (aj st))
  (hb:∀(cdv:Value) (A:Around) (outer:List Env) (s:Shared) (H:Hp) (E:XK),bT k (A.deeper (envOfC qual (aj st) s.heap.objs.size f cdv)) →
   h7 (gr (CXE P w) P w K mg base N qual (aj st) f cdv A outer s H E) E->Plain (gr (CXE P w) P w K mg base N qual (aj st) f cdv A outer s H E) →
   PassesOwn (model P w) (A.deeper (envOfC qual (aj st) s.heap.objs.size f cdv)) (envOfC qual (aj st) s.heap.objs.size f cdv) (gr (CXE P w) P w K mg base N qual (aj st) f cdv A outer s H E).xe →
   PSs (gr (CXE P w) P w K mg base N qual (aj st) f cdv A outer s H E) (bq st) (tMS K g (εX g E) mb)):dq P w K mg base (CXE P w) (k+1) f fd ps (spE K g ps.length (cI N.length mb)):=by
 obtain⟨oc,od,kV,doc,pm,an,cdv,ct,osl,rfl,lk,hcd⟩:=F.ex
 refine zx lk hcd S (fun vs H Q E h=>h.1) fun A outer s H vs Q E hr hsp=>⟨_,hb cdv A outer s H E hr tJ ⟨rfl,rfl,rfl⟩ PassesOwn.leaving,?_⟩
 obtain⟨hl,α,ds,h,rs,hh,w⟩:=hsp
 refine tMS.use ⟨hh,iQ rs⟩ w.bind fun fl h' H' α' e r kk=>?_
 cases fl with
 | nx e'=>exact fun σ' s'=>(show aB K g α H Q .non h' from kk) _ H' α' e r .non
 | bk e'=>exact kk.elim
 | ct e'=>exact kk.elim
 | rt d=>exact fun v rv=>(show aB K g α H Q d h' from kk) _ H' α' e r rv
end
section
variable {X:Cx} {g:GG} {E:XK} {ε:EE}
theorem uz {k:Nat} {f:Addr} {fd:FuncData} {ps:List Str} {m:MF} {np:Nat} {x:Str} {p pos:Pos} {e:Expr} {es:List Expr} {mr:MA} (fl:h7 X E) (pl:Plain X) (F:dq X.prog X.w X.K X.mg X.base (CXE X.prog X.w) k f fd ps (spE X.K g np m)) (hr:bT k X.A) (hg:Gl X x) (hm:X.mg x=some (.ref f)) (hk:PySem.W.keepIn X.K (.ref f)=true) (hb:Binds X.K fd ps [])
  (ha:PA X (e::es) (tMA X.K g (εX g E) mr)) (hlen:∀env h ds h',mr env h=.ok ds h'->ds.length=np) (hdb:(x == ("__debug__" : Str))=false:=by decide) (he:starEach (e::es) X.env=(false,eval e X.env)::starEach es X.env:=by rfl) (hpl:(backTo pos (starEach es X.env)).any (·.1)=false:=by rfl) :
  PE X (.Call (.Name x p) (e::es) [] pos) (tM X.K g (εX g E) (ah m mr)):=
 PE.imp (si F hr hg hm hk hb .nil (qK pl fl) ha hdb he hpl) fun σ H Q ⟨α,env,h,s,w⟩=>⟨α,env,h,s,w.bind.mono fun d1 h1 eq w1 v1 H1 α1 e1 hr1 r1=>by
  show spE X.K g np m (v1++[]) H1 Q E
  rw[List.append_nil]
  refine⟨?_,α1,d1,h1,r1,hr1,w1.post e1⟩
  rw[<- r1.length]
  exact hlen env h d1 h1 eq⟩
theorem _root_.L2.PS.nox {e:Stmt} {t:TS} (h:PS X.nox e t):PS X e t:=fun pins s σ H D I hw=>
 wpAny_mono (h pins s σ H D (I.iy _) hw) (fun _ _ q=>q.dI) fun _ _ z=>False.elim z
theorem rM {e:Expr} {m:ME} (h:PE X.nox e (tM X.K g E00 m)):PE X e (tM X.K g ε (up m)):=PE.imp h.nox fun σ H Q ⟨α,env,h,s,w⟩=>⟨α,env,h,s,nk w⟩
theorem zG {e:Expr} {m:MT} (h:PT X.nox e (tMT X.K g E00 m)):PT X e (tMT X.K g ε (up m)):=PT.imp h.nox fun σ H Q ⟨α,env,h,s,w⟩=>⟨α,env,h,s,nk w⟩
theorem ye {e:Stmt} {m:MS} (h:PS X.nox e (tMS X.K g E00 m)):PS X e (tMS X.K g ε (up m)):=PS.imp h.nox fun σ H Q ⟨α,env,h,s,w⟩=>⟨α,env,h,s,nk w⟩
theorem p9 {e:Expr}:PE X e (tM X.K g ε fun _ _=>.bad):=fun pins s σ H Q I ⟨α,env,h,sr,w⟩=>w.elim
end
end L2.FE
namespace L2
open PySem PySem.Spec PyProof.Rows
noncomputable abbrev unm (A:Around):Around:={ A with handled:=none }
section
variable {X:Cx} {pins:List (Addr × Obj)} {σ:St} {H:Hp} {s:Shared}
noncomputable abbrev Cx.hand (X:Cx) (A:Around) (pn:List (Addr × Obj)) (E:Value->Shared->Prop):Cx:={ X with A:=A,calm:=false,pn:=pn,xe:=E }
theorem Inv.hand (I:Inv X pins σ H s) {A:Around} (hA:A.frames=X.A.frames) {pn pins':List (Addr × Obj)} (hp:∀p∈pn++pins',p∈X.pn++pins) (E:Value->Shared->Prop):Inv (X.hand A pn E) pins' σ H s:=
 ⟨⟨I.ok.mod,I.ok.kind,I.ok.glob,I.ok.blt,I.ok.above,I.ok.inj,I.ok.has,I.ok.cab,fun z=>(nomatch z),hA.trans I.ok.frames,I.ok.stk,I.ok.exf,I.ok.bs,I.ok.bsz,I.ok.nP,I.ok.oY,I.ok.fX,I.ok.frf⟩,I.os,I.bare,I.base,I.loc,I.cell,I.free,I.cD,fun p h=>I.pin p (hp p h),I.hok,I.len⟩
noncomputable abbrev Cx.wpn (X:Cx) (pn:List (Addr × Obj)) (E:Value->Shared->Prop):Cx:={ X with pn:=pn,xe:=E }
theorem Inv.wpn (I:Inv X pins σ H s) {pn pins':List (Addr × Obj)} (hp:∀p∈pn++pins',p∈X.pn++pins) (E:Value->Shared->Prop):Inv (X.wpn pn E) pins' σ H s:=
 ⟨⟨I.ok.mod,I.ok.kind,I.ok.glob,I.ok.blt,I.ok.above,I.ok.inj,I.ok.has,I.ok.cab,I.ok.hd,I.ok.frames,I.ok.stk,I.ok.exf,I.ok.bs,I.ok.bsz,I.ok.nP,I.ok.oY,I.ok.fX,I.ok.frf⟩,I.os,I.bare,I.base,I.loc,I.cell,I.free,I.cD,fun p h=>I.pin p (hp p h),I.hok,I.len⟩
theorem Inv.back {A:Around} {pn pins':List (Addr × Obj)} {E:Value->Shared->Prop} (J:Inv (X.hand A pn E) pins' σ H s) (ok:X.Ok) (hp:∀p∈X.pn++pins,p∈pn++pins'):Inv X pins σ H s:=
 ⟨ok,J.os,J.bare,J.base,J.loc,J.cell,J.free,J.cD,fun p h=>J.pin p (hp p h),J.hok,J.len⟩
theorem Inv.adopt {B:Heap} {a:Addr} {oe:Obj} {ws:Array Value} (I:Inv X [] σ H s) (p:Plain X) (c:Cov B X.fs X.aS X.aH.heap H) (pn:∀p∈X.pn,B.get? p.1=some p.2) (fr:s.heap.FunFrames B X.stack) (nw:B.get? a=none) (q1:s.heap.get? a=some oe) (q4:oe.data=.fields ws) :
  H a=none/\Inv X [] σ (upd H a (FE.AtO a oe)) s:=by
 have hn:H a=none:=by
  cases z:H a with
  | none=>rfl
  | some o=>obtain⟨u,hu⟩:=c.trk a o z;rw[nw] at hu;cases hu
 have nfr:∀b∈X.env.locals::X.fs,b≠a:=by
  rintro b hb rfl
  have:b∈X.stack.filterMap (·.frame):=by
   rw[p.stk.1,List.filterMap_cons,p.stk.2]
   exact hb
  obtain⟨_,o',q',n⟩:=fr.mem this
  rw[q1] at q';cases q';exact n ws q4
 refine⟨hn,I.ok,I.os,I.bare,?_,I.loc,I.cell,?_,fun x c' e=>?_,fun q hq=>?_,fun b o e=>?_,I.len⟩
 ·obtain⟨u1,u2,u3,u4,u5,u6,u7⟩:=I.base
  refine⟨u1,u2,fun b o e n hx=>?_,u4,fun b xs q=>?_,fun b o u q=>?_,fun b ps q=>?_⟩
  ·rw[ay ?_];exact u3 b o e n hx
   rintro rfl
   by_cases hb:b∈X.fs
   ·exact nfr b (List.mem_cons_of_mem _ hb) rfl
   ·have:=c.old b o e n hb
    rw[nw] at this;cases this
  ·have:=u5 b xs q
   rw[ay (aI this hn)];exact this
  ·have:=u6 b o u q
   rw[ay (aI this hn)];exact this
  ·obtain⟨more,this⟩:=u7 b ps q
   exact⟨more,by rw[ay (aI this hn)];exact this⟩
 ·rw[ay (nfr _ List.mem_cons_self)];exact I.free
 ·rw[ay ?_];exact I.cD x c' e
  rintro rfl
  obtain⟨v,o,ho,hd⟩:=I.cell x c' e
  rw[q1] at ho;cases ho;rw[q4] at hd;cases hd
 ·have z:=I.pin q hq
  refine⟨z.1,?_,z.2.2⟩
  rw[ay ?_];exact z.2.1
  rintro e
  rw[List.append_nil] at hq
  have:=pn q hq
  rw[e,nw] at this;cases this
 ·by_cases hb:b=a
  ·subst hb
   rw[aJ] at e;cases e
   exact⟨q1,q1,⟨_,q1⟩,fun h1 h2 z k=>k _ z⟩
  ·rw[ay hb] at e
   exact(I.hok b o e).g_ (fun _ _ _ z=>z) (fun c' z=>by rw[ay (aI z hn)];exact z) fun c' xs z=>by rw[ay (aI z hn)];exact z
theorem Inv.forget {i:Nat} {x:Str} {m m':Str->Option Value} {h':Heap} {t':Nat} (I:Inv X pins σ H s) (hN:X.N.Nodup) (hi:X.N[i]?=some x) (hn:s.heap.Ns X.env.locals m) (hn':h'.Ns X.env.locals m') (hm:∀y,y≠x->m' y=m y) (sb:Heap.SameBut X.env.locals s.heap h'):Inv X pins (σ.set i none) H { s with heap:=h',toks:=t' }:=by
 have kp:∀b,b≠X.env.locals->h'.get? b=s.heap.get? b:=fun b n=>sb.2 b n
 have cellK:∀y c v,X.env.cells.lookup y=some c->s.heap.IsCell c v->h'.IsCell c v:=fun y c v e ⟨o,ho,hd⟩=>⟨o,by rw[kp c (I.cne y c e)];exact ho,hd⟩
 refine⟨I.ok,I.os,I.bare,?_,⟨m',hn',fun j y v a b c=>?_⟩,fun y c e=>let ⟨v,q⟩:=I.cell y c e;⟨v,cellK y c v e q⟩,I.free,I.cD,fun q hq=>?_,fun b o e=>?_,by rw[List.length_set];exact I.len⟩
 ·obtain⟨u1,u2,u3,u4,u5,u6,u7⟩:=I.base
  have ne:∀b o,X.aH.heap.get? b=some o->b≠X.env.locals:=fun b o e=>Nat.ne_of_lt (Nat.lt_of_lt_of_le (Heap.lt_size e) I.ok.above)
  exact⟨fun b o e n h1 h2=>by rw[kp b (ne b o e)];exact u1 b o e n h1 h2,fun b o e n h1 h2=>by rw[kp b (ne b o e)];exact u2 b o e n h1 h2,u3,fun b o e h2=>by rw[kp b (ne b o e)];exact u4 b o e h2,u5,u6,u7⟩
 ·rw[List.getElem?_set] at b
  by_cases hj:i=j
  ·rw[if_pos hj] at b
   split at b<;>cases b
  ·rw[if_neg hj] at b
   obtain⟨m0,hn0,k⟩:=I.loc
   obtain⟨u,r,l⟩:=k j y v a b c
   have hy:y≠x:=by
    rintro rfl
    exact hj ((List.getElem?_inj (List.getElem?_eq_some_iff.mp hi).1 hN).mp (hi.trans a.symm))
   have e0:m0=m:=by
    obtain⟨o1,es1,ep1,a1,a2,a3,a4⟩:=hn0
    obtain⟨o2,es2,ep2,b1,b2,b3,b4⟩:=hn
    rw[a1] at b1;cases b1
    rw[a2] at b2;cases b2
    funext y;rw[<- a4,<- b4]
   subst e0
   refine⟨u,r,l.imp (fun z=>⟨z.1,by rw[hm y hy];exact z.2⟩) fun⟨z,c',e,q⟩=>⟨z,c',e,cellK y c' _ e q⟩⟩
 ·have z:=I.pin q hq
  exact⟨by rw[kp _ z.2.2.1];exact z.1,z.2⟩
 ·exact(I.hok b o e).g_ (fun c' u hc q=>by
   rw[kp c' ?_];exact q
   rintro rfl
   rcases hc with rfl | hc
   ·rw[I.free] at e;cases e
   ·rw[I.free] at hc;cases hc) (fun _ q=>q) fun _ _ q=>q
end
structure FnH (P:Program) (w:World) (K:PySem.W.Frag) (mg:Str->Option Value) (base:Heap) (k:Nat) (f:Addr) (fd:FuncData) (ps:List Str) (sp:Sp):Prop where
 len:∀vs H Q E,sp vs H Q E->vs.length=ps.length
 run:∀(A:Around) (outer:List Env) (s:Shared) (H:Hp) (args:Args) (us:List Value) (vs:List V) (Q:VK) (E:XK),bT k (unm A)->vy P w K mg base A outer s H->BindsTo s fd args (ps.zip us)->Vals vs us->sp vs H Q E →
  codeAny (model P w) A (.call (.ref f) args) (CR CX0 outer P w H s Q E) s
theorem FnH.mono {P:Program} {w:World} {K:PySem.W.Frag} {mg:Str->Option Value} {base:Heap} {j k:Nat} {f:Addr} {fd:FuncData} {ps:List Str} {sp:Sp} (F:FnH P w K mg base j f fd ps sp) (h:j<=k):FnH P w K mg base k f fd ps sp:=
 ⟨F.len,fun A outer s H args us vs Q E hr=>F.run A outer s H args us vs Q E (hr.mono h)⟩
section
variable {P:Program} {w:World} {K:PySem.W.Frag} {mg:Str->Option Value} {base:Heap}
noncomputable abbrev cxH (P:Program) (w:World) (K:PySem.W.Frag) (mg:Str->Option Value) (base:Heap) (N:List Str) (qual:Str) (scope:Scope) (f:Addr) (cd:Value) (A:Around) (outer:List Env) (s:Shared) (H:Hp) (E:XK):Cx:=
 (gr CX0 P w K mg base N qual scope f cd A outer s H E).hand (A.deeper (envOfC qual scope s.heap.objs.size f cd)) [] fun _ _=>False
theorem A2 {x qual:Str} {st:Stmt} {f:Addr} {fd:FuncData} {N ps:List Str} {k:Nat} {sp:Sp} (F:Fun K x qual st f fd) (S:aP N ps (aj st)) (len:∀vs H Q E,sp vs H Q E->vs.length=ps.length)
  (hbody:∀(cdv:Value) (A:Around) (outer:List Env) (s:Shared) (H:Hp) (vs:List V) (Q:VK) (E:XK),bT k (unm (A.deeper (envOfC qual (aj st) s.heap.objs.size f cdv)))->sp vs H Q E →
   ∃t,PSs (cxH P w K mg base N qual (aj st) f cdv A outer s H E) (bq st) t/\t { nx:=fun _ H'=>Q .non H',rt:=Q } (start N vs) H):FnH P w K mg base (k+1) f fd ps sp:=by
 obtain⟨oc,od,kV,doc,pm,an,cdv,ct,osl,rfl,lk,hcd⟩:=F.ex
 refine⟨len,fun A outer s H args us vs Q E hr e0 hb r hsp=>?_⟩
 have hl:=len _ _ _ _ hsp
 have KX:K.In s.heap:=e0.mod.kin.keeps fun b o e=>(e0.bs b o e).1
 have lim:s.heap.NoLimit:=e0.mod.nolimit.keeps fun b o e=>(e0.bs b o e).1
 have hkind:∀y∈ps.zip us,(aj st).names.lookup y.1=some .local\/((aj st).names.lookup y.1=some .cell/\((cellsFrom (s.heap.objs.size+1) (aj st).names []).lookup y.1).isSome=true):=fun⟨n,v⟩ hy=>by
  rcases S.par n (List.of_mem_zip hy).1 with q | q
  ·exact .inl q
  ·exact .inr ⟨q,PySem.W.cellsFrom_some _ _ _ (.inl q)⟩
 have hdp:A.depth<recursionLimit:=bT.depth (A:=unm A) hr
 refine codeAny_call_function hdp (KX _ _ lk) rfl S.co S.gen rfl (PySem.W.codeRec_of KX hcd) (hb _ _ _ _ ?_)
 refine wpAny_newFunctionEnv_cells S.kind hkind fun env he s1 x=>?_
 subst he
 refine⟨lim.keeps x.toInCall.keep,codeAny_func ?_⟩
 obtain⟨t,ht,hq⟩:=hbody cdv A outer s H vs Q E (hr.deeper _) hsp
 have I0:Inv (gr CX0 P w K mg base N qual (aj st) f cdv (unm A) outer s H E) [] (start N vs) H s1:=lV S rfl ⟨e0.frames,e0.mod,e0.bs,e0.bsz,e0.fX,e0.frf,e0.hok,e0.bare⟩ hl r x
 have I:Inv (cxH P w K mg base N qual (aj st) f cdv A outer s H E) [] (start N vs) H s1:=
  ⟨⟨I0.ok.mod,I0.ok.kind,I0.ok.glob,I0.ok.blt,I0.ok.above,I0.ok.inj,I0.ok.has,I0.ok.cab,fun z=>(nomatch z),Around.frames_deeper e0.frames,I0.ok.stk,I0.ok.exf,I0.ok.bs,I0.ok.bsz,I0.ok.nP,I0.ok.oY,I0.ok.fX,I0.ok.frf⟩,I0.os,I0.bare,I0.base,I0.loc,I0.cell,I0.free,I0.cD,I0.pin,I0.hok,I0.len⟩
 refine wpAny_mono (ht [] s1 (start N vs) H _ I hq) (fun fl s' hs=>?_) fun e s' hs=>hs.elim
 have fin:∀{σ':St} {H':Hp} {v:V} {u:Value},Inv (cxH P w K mg base N qual (aj st) f cdv A outer s H E) [] σ' H' s'->RelV v u->Q v H'->CE outer P w H s Q u s':=
  fun{σ' H' v u} J rv q=>⟨v,H',J.os,J.bare,J.base,J.hok,rv,q⟩
 cases fl with
 | ret u=>
  obtain⟨v,σ',H',J,rv,q⟩:=hs
  exact fin J rv q
 | next=>
  obtain⟨σ',H',J,q⟩:=hs
  exact fin (v:=V.non) (u:=Value.none) J rfl q
 | brk=>
  obtain⟨_,_,_,q⟩:=hs
  exact q.elim
 | cont=>
  obtain⟨_,_,_,q⟩:=hs
  exact q.elim
end
section
variable {X:Cx} {k:Nat} {f:Addr} {fd:FuncData} {ps:List Str} {sp:Sp} {x:Str} {p pos:Pos} {e:Expr} {es:List Expr} {t:TA}
theorem oP (F:FnH X.prog X.w X.K X.mg X.base k f fd ps sp) (hr:bT k (unm X.A)) (hg:Gl X x) (hm:X.mg x=some (.ref f)) (hk:PySem.W.keepIn X.K (.ref f)=true) (hb:Binds X.K fd ps [])
  (ha:PA X (e::es) t) (hdb:(x == ("__debug__" : Str))=false:=by decide) (he:starEach (e::es) X.env=(false,eval e X.env)::starEach es X.env:=by rfl) (hpl:(backTo pos (starEach es X.env)).any (·.1)=false:=by rfl) :
  PE X (.Call (.Name x p) (e::es) [] pos) (zP sp [] E0 t):=by
 intro pins s σ H Q I h
 refine wpAny_Call_Name_kw (fR I hg hm ?_ hdb)
 refine PySem.W.callWith_K (h₀:=X.base) I.ok.mod.kin hk (thn (ha pos pins s σ H _ I h) fun us s1 ⟨vs,H1,I1,r,q⟩=>⟨I1.kIn,?_⟩) he hpl
 replace q:sp vs H1 Q E0:=by simpa using q
 have hl:us.length=ps.length:=by rw[<- r.length];exact F.len _ _ _ _ q
 have hbb:=hb s1 us I1.kIn (by rw[List.append_nil];exact hl)
 rw[List.append_nil] at hbb
 refine wpAny_call (codeAny_mono (F.run X.A X.stack s1 H1 ⟨us,[]⟩ us vs Q E0 hr I1.BV hbb r q) fun r s' hq=>?_)
 cases r with
 | error e=>exact hq.elim
 | ok fl=>
  cases fl with
  | ret u=>exact I1.after hq
  | next=>exact hq.elim
  | brk=>exact hq.elim
  | cont=>exact hq.elim
end
end L2
namespace L2
open PySem PySem.Spec PyProof.Rows PySem.W
theorem sO:plainId "BaseException.__getattribute__" = true:=by decide +kernel
theorem vI:builtinKind "BaseException.__getattribute__" = some .slot:=by decide +kernel
theorem tS:splitId "BaseException.__getattribute__" = some ("BaseException", "__getattribute__"):=by decide +kernel
theorem uw (v:Value):bindSpecial (.builtin "BaseException.__getattribute__") v=pure (.builtin "BaseException.__getattribute__", [v]):=F.excAttr_ValueError.ga.bind v
section
variable {prog:Program} {w:World} {A:Around} {E:Value->Shared->Prop} {s:Shared} {K:Frag} {x D:Addr} {ox:Obj} {odo:Option Obj} {name:Str}
theorem yG {g0 a0:Value} {tk:Tok} {Q:Fin->Shared->Prop} (X:K.In s.heap) (I:InstAt s.heap x ox D odo) (hf:findObj K D odo name=some (.bind g0 a0)) (h:wpAny (model prog w) A (call g0 [a0,.ref x,.ref D]) (fun v s'=>Q (.done (.ret v)) s') E s) :
  wpAny (model prog w) A (Builtin.«object.__getattribute__» ⟨[.ref x,.str name tk],[]⟩) Q E s:=by
 obtain⟨hh,gg,d,t,os⟩:=s
 have L0:=I.type (M:=model prog w)
 have L1:=looks_find (M:=model prog w) X I hf
 unfold Builtin.«object.__getattribute__»
 refine wpAny_bind (wpAny_pure (wpAny_bind (wpAny_pure (wpAny_bind (L0.at (wpAny_bind (L1.at ?_)))))))
 exact wpAny_bind (wpAny_holding (wpAny_mono h (fun v s' z=>wpAny_pure z) fun _ _ z=>z))
theorem uR {g0 a0:Value} {tk:Tok} {R:Result->Shared->Prop} (X:K.In s.heap) (I:InstAt s.heap x ox D odo) (hsub:mroIn K D (.type "BaseException")=some true) (hf:findObj K D odo name=some (.bind g0 a0))
  (h:wpAny (model prog w) A.in1 (call g0 [a0,.ref x,.ref D]) (fun v s'=>R (.ok (.ret v)) s') (fun e s'=>R (.error e) s') s) :
  codeAny (model prog w) A (.call (.builtin "BaseException.__getattribute__") ⟨[.ref x,.str name tk],[]⟩) R s:=by
 have L0:=I.type (M:=model prog w)
 have L3:Looks (model prog w) s.heap (isInstance (.ref x) (.type "BaseException")) true:=L0.andThen (looks_mroIn X hsub)
 refine codeAny_call_builtin sO F.entry_bexc_ga ?_
 refine check_slot (i:="BaseException.__getattribute__") vI tS L3 (F.args_bexc_ga (.ref x) (.str name tk)) ?_
 exact yG X I hf h
theorem wR {g0 a0 v0:Value} {Q:Option Value->Shared->Prop} (X:K.In s.heap) (I:InstAt s.heap x ox D odo) (hga:findIn K (.ref D) "__getattribute__" = some (some (.builtin "BaseException.__getattribute__"))) (hhk:findIn K (.ref D) "__getattr__" = some none) (hsub:mroIn K D (.type "BaseException")=some true)
  (hf:findObj K D odo name=some (.bind g0 a0)) (hv:handedIn v0=true)
  (h:∀(A:Around) (E:Value->Shared->Prop) (Q':Value->Shared->Prop),Q' v0 { s with toks:=s.toks+1 }->wpAny (model prog w) A (call g0 [a0,.ref x,.ref D]) Q' E { s with toks:=s.toks+1 })
  (q:Q (some v0) { s with toks:=s.toks+1 }):wpAny (model prog w) A (getAttr? (.ref x) name) Q E s:=by
 obtain⟨hh,gg,d,t,os⟩:=s
 have L0:=I.type (M:=model prog w)
 have L1:=looks_findIn (M:=model prog w) X hga
 have L2:=looks_findIn (M:=model prog w) X hhk
 have L3:Looks (model prog w) hh (isInstance (.ref x) (.type "BaseException")) true:=L0.andThen (looks_mroIn X hsub)
 unfold getAttr? getAttrBy? getAttrBy
 refine wpAny_bind (wpAny_mkText (wpAny_bind (wpAny_attempt (wpAny_holding (wpAny_bind (L0.at (wpAny_bind (L1.at ?_))))))))
 dsimp only
 rw[if_neg (show ¬ ((onTheHeap (Value.ref D)&&(Value.builtin "BaseException.__getattribute__" == Value.builtin "object.__getattribute__"))=true) from by rw[show(Value.builtin "BaseException.__getattribute__" == Value.builtin "object.__getattribute__")=false from by decide +kernel,Bool.and_false];decide)]
 unfold getAttrByItsOwn hookBefore
 rw[if_pos (show onTheHeap (.ref D)=true from rfl)]
 refine wpAny_bind (L2.at (wpAny_bind (wpAny_attempt (wpAny_holding ?_))))
 unfold callGetattribute
 rw[if_neg (show ¬ ((false&&_)=true) from by simp)]
 unfold boundAndCalled
 rw[uw]
 refine wpAny_bind (wpAny_pure ?_)
 show wpAny (model prog w) A (call (.builtin "BaseException.__getattribute__") [.ref x,.str name t]) _ _ _
 refine wpAny_call (uR (s:=⟨hh,gg,d,t+1,os⟩) X I hsub hf (h _ _ _ ?_))
 exact handed_on hv (wpAny_pure q)
end
theorem wH {K:Frag} {x D:Addr} {ox:Obj} {odo:Option Obj} (hga:findIn K (.ref D) "__getattribute__" = some (some (.builtin "BaseException.__getattribute__"))) (hhk:findIn K (.ref D) "__getattr__" = some none) (hsub:mroIn K D (.type "BaseException")=some true) (hdct:hasDictIn K D=true) (ha:findIn K (.ref D) "__class__" = some (some (.builtin "object.__class__")))
  (hn:specialIn K (.builtin "object.__class__") "__get__" = some (some (.builtin "getset_descriptor.__get__"))) (htk:takesIn K (.builtin "object.__class__")=some true) (hm:mroIn K D (.type "object")=some true) :
  KitX K (.ref x) (.ref D) (fun h=>InstAt h x ox D odo):=by
 obtain⟨cdD,hcD,_⟩:=any_some hdct
 have hlk:∃c' d' cd' sl',K.lookup D=some ⟨c',d',.cls cd',sl'⟩:=by
  unfold clsIn at hcD
  split at hcD
  ·exact⟨_,_,_,_,by assumption⟩
  ·cases hcD
 obtain⟨c',d',cd',sl',ho⟩:=hlk
 refine⟨fun _ _ _ I=>I.type,fun _ _ X _=>?_,fun h tp dd its n sl X htp=>?_,fun{prog w A E Q s} X I k=>?_⟩
 ·intro A' Q' E' s' k q
  unfold isType loadHead
  exact wpAny_bind (wpAny_loadPart (k _ _ (X _ _ ho)) (wpAny_pure q))
 ·refine Bool.eq_false_iff.mpr fun q=>?_
  have e:D=tp:=Value.ref.inj (beq_iff_eq.mp q)
  subst e
  have z:=(X _ _ ho).symm.trans htp
  cases z
 ·have hf:findObj K D odo "__class__" = some (.bind (.builtin "getset_descriptor.__get__") (.builtin "object.__class__")):=by
   unfold findObj
   rw[hcD,Option.bind_some,ha,Option.bind_some]
   simp[hn,htk]
  exact wR X I hga hhk hsub hf rfl (fun A E Q' q'=>wpAny_call (class_get (s:={ s with toks:=s.toks+1 }) (ox:=ox) (od:=odo) X I hm q')) k
noncomputable abbrev aV:List Str:=["FallError", "NoOrder", "NoNumber", "NoSet", "NoRow", "NoLine", "NoText", "TooGreat"]
noncomputable def qA (c x:Str):Bool:=c == x || x == "FallError"
noncomputable def vY (c:Str):Bool:=!(c == "NoText" || c == "TooGreat")
noncomputable def qs (K:Frag) (D:Addr):Bool:=findIn K (.ref D) "__getattribute__" == some (some (.builtin "BaseException.__getattribute__"))&&findIn K (.ref D) "__getattr__" == some none&&mroIn K D (.type "BaseException") == some true&&hasDictIn K D&&findIn K (.ref D) "__class__" == some (some (.builtin "object.__class__"))&&specialIn K (.builtin "object.__class__") "__get__" == some (some (.builtin "getset_descriptor.__get__"))&&takesIn K (.builtin "object.__class__") == some true&&mroIn K D (.type "object") == some true
noncomputable def zr (K:Frag) (l:List (Str × Addr)):Bool:=l.all fun p=>qs K p.2&&kitOne K (.ref p.2) (.type "ValueError") == some true&&(!vY p.1 || excIn K p.2 bmV "ValueError.__new__")&&l.all fun q=>kitOne K (.ref p.2) (.ref q.2) == some (qA p.1 q.1)&&(!(q.1 == "FallError") || exmOne K (.ref p.2) (.ref q.2) == some true)
noncomputable def xm (K:Frag):Prop:=∃l:List (Str × Addr),l.map (·.1)=aV/\(∀p∈l,nsIn K mainGlobals p.1=some (some (.ref p.2)))/\zr K l=true
theorem Bx {K:Frag} {a0 a1 a2 a3 a4 a5 a6 a7:Addr} (e0:nsIn K mainGlobals "FallError" = some (some (.ref a0))) (e1:nsIn K mainGlobals "NoOrder" = some (some (.ref a1))) (e2:nsIn K mainGlobals "NoNumber" = some (some (.ref a2))) (e3:nsIn K mainGlobals "NoSet" = some (some (.ref a3)))
  (e4:nsIn K mainGlobals "NoRow" = some (some (.ref a4))) (e5:nsIn K mainGlobals "NoLine" = some (some (.ref a5))) (e6:nsIn K mainGlobals "NoText" = some (some (.ref a6))) (e7:nsIn K mainGlobals "TooGreat" = some (some (.ref a7)))
  (c:zr K [("FallError", a0),("NoOrder", a1),("NoNumber", a2),("NoSet", a3),("NoRow", a4),("NoLine", a5),("NoText", a6),("TooGreat", a7)]=true):xm K:=
 ⟨_,rfl,by
  intro p hp
  simp only[List.mem_cons,List.not_mem_nil,or_false] at hp
  rcases hp with rfl | rfl | rfl | rfl | rfl | rfl | rfl | rfl<;>assumption,c⟩
structure mW (K:Frag) (mg:Str->Option Value):Prop where
 at_:∀c∈aV,∃C,mg c=some (.ref C)
 one:∀c∈aV,∀C,mg c=some (.ref C)->qs K C=true/\kitOne K (.ref C) (.type "ValueError")=some true/\(vY c=true->excIn K C bmV "ValueError.__new__" = true)
 two:∀c∈aV,∀C,mg c=some (.ref C)->∀x∈aV,∀X,mg x=some (.ref X)->kitOne K (.ref C) (.ref X)=some (qA c x)
 exm:∀c∈aV,∀C,mg c=some (.ref C)->∀X,mg "FallError" = some (.ref X)->exmOne K (.ref C) (.ref X)=some true
theorem mW.of {K:Frag} {h:Heap} {mg:Str->Option Value} (X:K.In h) (G:h.Ns mainGlobals mg) (k:xm K):mW K mg:=by
 obtain⟨l,h1,h2,h3⟩:=k
 have mem:∀c∈aV,∀C,mg c=some (.ref C)->(c,C)∈l:=fun c hc C e=>by
  rw[<- h1] at hc
  obtain⟨p,hp,rfl⟩:=List.mem_map.mp hc
  have:=mg_of X G (h2 p hp)
  rw[e] at this;cases this
  exact hp
 have al:=List.all_eq_true.mp h3
 refine⟨fun c hc=>?_,fun c hc C e=>?_,fun c hc C e x hx D e'=>?_,fun c hc C e D e'=>?_⟩
 ·rw[<- h1] at hc
  obtain⟨p,hp,rfl⟩:=List.mem_map.mp hc
  exact⟨_,mg_of X G (h2 p hp)⟩
 ·have:=al _ (mem c hc C e)
  simp only[Bool.and_eq_true,beq_iff_eq,Bool.or_eq_true,Bool.not_eq_true'] at this
  refine⟨this.1.1.1,this.1.1.2,fun z=>this.1.2.elim (fun y=>?_) fun y=>y⟩
  rw[z] at y;cases y
 ·have:=al _ (mem c hc C e)
  simp only[Bool.and_eq_true] at this
  have:=List.all_eq_true.mp this.2 _ (mem x hx D e')
  simp only[Bool.and_eq_true,beq_iff_eq] at this
  exact this.1
 ·have:=al _ (mem c hc C e)
  simp only[Bool.and_eq_true] at this
  have:=List.all_eq_true.mp this.2 _ (mem "FallError" (by decide) D e')
  simp only[Bool.and_eq_true,beq_iff_eq,Bool.or_eq_true,Bool.not_eq_true'] at this
  rcases this.2 with z | z
  ·exact absurd z (by decide)
  ·exact z
theorem tV {P:Program} {w:World} {H:Hp} {h:Heap} {p C:Addr} {o:Obj} {fs:List (Str × Int)} (ok:HOk P w H h) (q:H p=some (FE.AtO p o)) (hc:o.cls=.ref C) (hd:∃vs,o.data=.fields vs) (xf:FE.XFs H o.dict fs):∃odo,InstAt h p o C odo:=by
 obtain⟨q1,_⟩:=ok p _ q
 obtain⟨vs,hd⟩:=hd
 have nc:notCls o=true:=by unfold notCls;rw[hd]
 rcases xf with⟨z,_⟩ | ⟨dx,od,z,q2⟩
 ·exact⟨none,q1,hc,nc,by rw[z];trivial⟩
 ·obtain⟨q3,_⟩:=ok dx _ q2
  exact⟨some od,q1,hc,nc,by rw[z];exact q3⟩
end L2
namespace L2.FE
open PySem PySem.Spec PyProof.Rows
section
variable {X:Cx} {g:GG} {ε:EE} {K:PySem.W.Frag}
noncomputable def ng (x:Str):D->Hh->R D:=fun d h=>match d with
 | .exc c _=>if (aV.contains c&&aV.contains x)=true then .ok (.bl (qA c x)) h else .bad
 | _=>.bad
noncomputable def Aj:D->Hh->R D:=fun d h=>match d with
 | .exc c _=>if aV.contains c=true then .ok (.bl true) h else .bad
 | _=>.bad
theorem gO {mg:Str->Option Value} {x:Str} {f:Addr} (h:gOf mg x=some f):mg x=some (.ref f):=by
 unfold gOf at h
 split at h
 ·cases h;assumption
 ·cases h
theorem oq (hc:mW X.K X.mg) (hgo:g=gOf X.mg):aR X (.builtin "isinstance") (fun vs H Q=>∃p D o c fs C b,vs=[.ref p,D]/\g c=some C/\H p=some (AtO p o)/\o.cls=.ref C/\(∃us,o.data=.fields us)/\XFs H o.dict fs/\aV.contains c=true/\(∀u,RelV D u->PySem.W.kitOne X.K (.ref C) u=some b)/\Q (.bl b) H):=by
 intro pins s σ H xs us Q I r h
 obtain⟨p,D,o,c,fs,C,b,rfl,hg,hp,hcl,hd,xf,hcn,hk,q⟩:=h
 cases r with
 | @cons _ _ _ _ r1 r2=>
  cases r2 with
  | @cons _ u _ _ r3 r4=>
   cases r4
   cases r1
   obtain⟨odo,ia⟩:=tV I.hok hp hcl hd xf
   subst hgo
   have hC:=gO hg
   have k1:=(hc.one c (by simpa using hcn) C hC).1
   unfold qs at k1
   simp only[Bool.and_eq_true,beq_iff_eq] at k1
   obtain⟨⟨⟨⟨⟨⟨⟨a1,a1b⟩,a1c⟩,a2⟩,a3⟩,a4⟩,a5⟩,a6⟩:=k1
   refine PySem.W.kia_one (wH a1 a1b a1c a2 a3 a4 a5 a6) I.kIn ia (hk u r3) (by intro z;cases z) fun tk=>?_
   exact⟨.bl b,H,I.kept (h':=s.heap) (t':=tk) fun _ _ z=>z,rfl,q⟩
theorem AH {x:Str} {p:Pos} {C:Addr} (hg:Gl X x) (hm:X.mg x=some (.ref C)) (hd:(x == ("__debug__" : Str))=false:=by decide):PE X (.Name x p) (tC (.ref C)):=fun pins s σ H Q I h=>fR I hg hm ⟨.ref C,H,I,rfl,h⟩ hd
theorem gA {e:Expr} {me:ME} {x:Str} {p1 p2 pos:Pos} (hc:mW X.K X.mg) (hgo:g=gOf X.mg) (he:PE X e (tM X.K g ε me)) (hg:Gl X "isinstance") (hm:X.mg "isinstance" = none) (hg2:Gl X x) (hx:x∈aV) (hd:(x == ("__debug__" : Str))=false:=by decide)
  (hs1:starEach [e,.Name x p2] X.env=(false,eval e X.env)::starEach [.Name x p2] X.env:=by rfl) (hs2:starEach [.Name x p2] X.env=[(false,eval (.Name x p2) X.env)]:=by rfl) (hpl:(backTo pos (starEach [.Name x p2] X.env)).any (·.1)=false:=by rfl) :
  PE X (.Call (.Name "isinstance" p1) [e,.Name x p2] [] pos) (tM X.K g ε (cUn (ng x) me)):=by
 obtain⟨C2,hC2⟩:=hc.at_ x hx
 refine PE.imp (gG (oq hc hgo) hg hm PyProof.Rows.boot_isinstance (cU he (cU (AH hg2 hC2 hd) gw hs2) hs1) (by decide) (by decide) hs1 hpl) fun σ H Q ⟨α,env,h,s,w⟩=>tM.use s w.bind fun d1 h1 v1 H1 α1 e1 s1 r1 w1=>?_
 unfold ng at w1
 cases r1 with
 | @exc c C p o fs hgc hp hcl hdd xf=>
  obtain⟨hh,w1⟩:=WQ.bI w1
  rw[Bool.and_eq_true] at hh
  refine⟨p,.ref C2,o,c,fs,C,_,rfl,hgc,hp,hcl,hdd,xf,hh.1,fun u ru=>?_,aB.now (aB.ext e1 w1) s1.heap (.bl _)⟩
  cases ru
  subst hgo
  exact hc.two c (by simpa using hh.1) C (gO hgc) x hx C2 hC2
 | _=>exact w1.elim
theorem AY {e:Expr} {me:ME} {p1 p2 pos:Pos} (hc:mW X.K X.mg) (hgo:g=gOf X.mg) (he:PE X e (tM X.K g ε me)) (hg:Gl X "isinstance") (hm:X.mg "isinstance" = none) (hg2:Gl X "ValueError") (hm2:X.mg "ValueError" = none)
  (hs1:starEach [e,.Name "ValueError" p2] X.env=(false,eval e X.env)::starEach [.Name "ValueError" p2] X.env:=by rfl) (hs2:starEach [.Name "ValueError" p2] X.env=[(false,eval (.Name "ValueError" p2) X.env)]:=by rfl) (hpl:(backTo pos (starEach [.Name "ValueError" p2] X.env)).any (·.1)=false:=by rfl) :
  PE X (.Call (.Name "isinstance" p1) [e,.Name "ValueError" p2] [] pos) (tM X.K g ε (cUn Aj me)):=by
 refine PE.imp (gG (oq hc hgo) hg hm PyProof.Rows.boot_isinstance (cU he (cU (rG (v:=.ty "ValueError") hg2 hm2 PyProof.Rows.Boot.«ValueError» rfl (by decide) (by decide)) gw hs2) hs1) (by decide) (by decide) hs1 hpl) fun σ H Q ⟨α,env,h,s,w⟩=>tM.use s w.bind fun d1 h1 v1 H1 α1 e1 s1 r1 w1=>?_
 unfold Aj at w1
 cases r1 with
 | @exc c C p o fs hgc hp hcl hdd xf=>
  obtain⟨hh,w1⟩:=WQ.bI w1
  refine⟨p,.ty "ValueError", o,c,fs,C,_,rfl,hgc,hp,hcl,hdd,xf,hh,fun u ru=>?_,aB.now (aB.ext e1 w1) s1.heap (.bl _)⟩
  cases ru
  subst hgo
  exact(hc.one c (by simpa using hh) C (gO hgc)).2.1
 | _=>exact w1.elim
theorem pU {h:Heap} {l:Addr} {its:Array Value} (x:h.IsList l its):∃dd n sl,h.get? l=some { cls:=.type "list", dict:=dd,data:=.seq its n,slots:=sl }:=by
 obtain⟨⟨c,d,da,sl⟩,h1,h2,n,h3⟩:=x
 dsimp only at h2 h3
 subst h2 h3
 exact⟨_,_,_,h1⟩
noncomputable def eqB (b:Bool):Value->Bool
 | .bool c=>c == b
 | _=>false
theorem kd:∀{bs:List Bool} {us:List Value},Vals (bs.map V.bl) us->us=bs.map Value.bool
 | [],_,.nil=>rfl
 | b::bs,_,.cons r t=>by
  have e:_=Value.bool b:=r
  rw[e,kd t];rfl
noncomputable def rD (K:PySem.W.Frag):V->List V->Hp->VK->Prop:=fun x vs H Q=>∃(l:Addr) (bs:List Bool) (b:Bool),x=.ref l/\vs=[.bl b]/\SqL K H l (bs.map V.bl)/\Q (.int (bs.countP (· == b):Nat)) H
theorem sU:MtM X "list.count" (rD X.K):=by
 intro pins s σ H x vs v us Q I rx rv h
 obtain⟨l,bs,b,rfl,rfl,hq,q⟩:=h
 cases rx
 obtain⟨u,rfl,ru⟩:=rv.one
 have e0:u=Value.bool b:=ru
 subst e0
 obtain⟨its,rs,pl,hz⟩:=I.list hq
 have ei:=kd rs
 subst ei
 obtain⟨dd,n,sl,ho⟩:=pU pl.isList
 refine call_meets F.slot_list_count ⟨_,ho,rfl⟩ F.entry_list_count (F.args_list_count_2 _ _) (SeqAt.list_countAt l _ n dd sl (.bool b) (eqB b)) ⟨ho,fun y hy=>?_,?_⟩
 ·obtain⟨c,_,rfl⟩:=List.mem_map.mp (by simpa using hy:y∈bs.map Value.bool)
  exact SeqAt.EqAt.bool_bool c b
 ·refine⟨.int (bs.countP (· == b):Nat),H,I.kept (h':=s.heap) (t':=s.toks+1) fun _ _ z=>z,⟨s.toks,?_⟩,q⟩
  rw[List.toList_toArray,List.countP_map]
  rfl
noncomputable def sd (K:PySem.W.Frag):V->List V->Hp->VK->Prop:=fun x vs H Q=>∃(l:Addr) (bs:List Bool) (b:Bool) (j:Nat),x=.ref l/\vs=[.bl b]/\SqL K H l (bs.map V.bl)/\bs.findIdx? (· == b)=some j/\bs.length<1000000/\Q (.int (j:Nat)) H
theorem t7:MtM X "list.index" (sd X.K):=by
 intro pins s σ H x vs v us Q I rx rv h
 obtain⟨l,bs,b,j,rfl,rfl,hq,hj,hlen,q⟩:=h
 cases rx
 obtain⟨u,rfl,ru⟩:=rv.one
 have e0:u=Value.bool b:=ru
 subst e0
 obtain⟨its,rs,pl,hz⟩:=I.list hq
 have ei:=kd rs
 subst ei
 obtain⟨dd,n,sl,ho⟩:=pU pl.isList
 obtain⟨hlt,hit,hno⟩:=List.findIdx?_eq_some_iff_getElem.mp hj
 refine call_meets F.slot_list_index ⟨_,ho,rfl⟩ F.entry_list_index (F.args_list_index_2 _ _) (SeqAt.list_indexAt l _ n dd sl (.bool b) (eqB b) j (by simpa using hlt) (by omega) ?_ ?_) ⟨ho,fun y hy=>?_,?_⟩
 ·simpa [eqB] using hit
 ·intro m hm h2
  have:=hno m h2
  simpa [eqB] using this
 ·obtain⟨c,_,rfl⟩:=List.mem_map.mp (by simpa using hy:y∈bs.map Value.bool)
  exact SeqAt.EqAt.bool_bool c b
 ·exact⟨.int (j:Nat),H,I.kept (h':=s.heap) (t':=s.toks+1) fun _ _ z=>z,⟨s.toks,rfl⟩,q⟩
noncomputable def mL:D->List D->Hh->R D:=fun o ds h=>match o,ds with
 | .frl xs,[.bl b]=>match jf xs with
  | some bs=>.ok (.int (bs.countP (· == b):Nat)) h
  | none=>.bad
 | _,_=>.bad
noncomputable def nR:D->List D->Hh->R D:=fun o ds h=>match o,ds with
 | .frl xs,[.bl b]=>match jf xs with
  | some bs=>match bs.findIdx? (· == b) with
   | some j=>if bs.length<1000000 then .ok (.int (j:Nat)) h else .bad
   | none=>.bad
  | none=>.bad
 | _,_=>.bad
theorem s_:mX K g ε mL (rD K):=by
 intro α H h o a y x Q r ro ra w
 unfold mL at w
 cases ro with
 | @frl ds p vs hq rs=>
  cases ra with
  | nil=>exact w.elim
  | cons rd rr=>
   cases rr with
   | cons _ _=>cases rd<;>exact w.elim
   | nil=>
    cases rd with
    | bl b=>
     simp only at w
     cases e2:jf ds with
     | none=>rw[e2] at w;exact w.elim
     | some bs=>
      rw[e2] at w
      have e3:=gq e2
      subst e3
      have e4:=rs.Aq
      subst e4
      exact⟨p,bs,b,rfl,rfl,hq.sq,aB.now w r (.int _)⟩
    | _=>exact w.elim
 | _=>exact w.elim
theorem sM:mX K g ε nR (sd K):=by
 intro α H h o a y x Q r ro ra w
 unfold nR at w
 cases ro with
 | @frl ds p vs hq rs=>
  cases ra with
  | nil=>exact w.elim
  | cons rd rr=>
   cases rr with
   | cons _ _=>cases rd<;>exact w.elim
   | nil=>
    cases rd with
    | bl b=>
     simp only at w
     cases e2:jf ds with
     | none=>rw[e2] at w;exact w.elim
     | some bs=>
      rw[e2] at w
      simp only at w
      cases e5:bs.findIdx? (· == b) with
      | none=>rw[e5] at w;exact w.elim
      | some j=>
       rw[e5] at w
       obtain⟨hl,w⟩:=WQ.bI w
       have e3:=gq e2
       subst e3
       have e4:=rs.Aq
       subst e4
       exact⟨p,bs,b,j,rfl,rfl,hq.sq,e5,hl,aB.now w r (.int _)⟩
    | _=>exact w.elim
 | _=>exact w.elim
end
end L2.FE
namespace L2
open PySem PySem.Spec PyProof.Rows
theorem Inv.Cf {X:Cx} {pins pins' pn:List (Addr × Obj)} {σ:St} {H:Hp} {s:Shared} {E:Value->Shared->Prop} (J:Inv (X.wpn pn E) pins' σ H s) (hp:∀p∈X.pn++pins,p∈pn++pins'):Inv X pins σ H s:=
 ⟨⟨J.ok.mod,J.ok.kind,J.ok.glob,J.ok.blt,J.ok.above,J.ok.inj,J.ok.has,J.ok.cab,J.ok.hd,J.ok.frames,J.ok.stk,J.ok.exf,J.ok.bs,J.ok.bsz,J.ok.nP,J.ok.oY,J.ok.fX,J.ok.frf⟩,J.os,J.bare,J.base,J.loc,J.cell,J.free,J.cD,fun p h=>J.pin p (hp p h),J.hok,J.len⟩
end L2
namespace L2.FE
open PySem PySem.Spec PyProof.Rows
noncomputable def yS (P:Program) (w:World) (K:PySem.W.Frag) (mg:Str->Option Value) (base:Heap) (g:GG) (x:Str) (k:Nat) (ps:List Str) (m:MF):Prop:=
 ∃f fd,FnH P w K mg base k f fd ps (spM K g ps.length m)/\PySem.W.keepIn K (.ref f)=true/\Binds K fd ps []/\mg x=some (.ref f)
section
variable {P:Program} {w:World} {K:PySem.W.Frag} {mg:Str->Option Value} {base:Heap} {g:GG}
theorem zM {x qual:Str} {st:Stmt} {f:Addr} {fd:FuncData} {N ps:List Str} {k:Nat} {mb:MS} (F:Fun K x qual st f fd) (S:aP N ps (aj st))
  (hb:∀(cdv:Value) (A:Around) (outer:List Env) (s:Shared) (H:Hp) (E:XK),bT k (unm (A.deeper (envOfC qual (aj st) s.heap.objs.size f cdv))) →
   PSs (cxH P w K mg base N qual (aj st) f cdv A outer s H E) (bq st) (tMS K g E00 mb)):FnH P w K mg base (k+1) f fd ps (spM K g ps.length (cI N.length mb)):=by
 refine A2 F S (fun vs H Q E h=>h.1) fun cdv A outer s H vs Q E hr h=>⟨_,hb cdv A outer s H E hr,?_⟩
 obtain⟨hl,α,ds,h,rs,hh,w⟩:=h
 refine tMS.use ⟨hh,iQ rs⟩ w.bind fun fl h' H' α' e r kk=>?_
 cases fl with
 | nx e'=>exact fun σ' s'=>(show aB K g α H Q .non h' from kk) _ H' α' e r .non
 | bk e'=>exact kk.elim
 | ct e'=>exact kk.elim
 | rt d=>exact fun v rv=>(show aB K g α H Q d h' from kk) _ H' α' e r rv
end
section
variable {X:Cx} {g:GG} {ε:EE}
theorem uC {k:Nat} {f:Addr} {fd:FuncData} {ps:List Str} {m:MF} {np:Nat} {x:Str} {p pos:Pos} {e:Expr} {es:List Expr} {mr:MA} (F:FnH X.prog X.w X.K X.mg X.base k f fd ps (spM X.K g np m)) (hr:bT k (unm X.A)) (hg:Gl X x) (hm:X.mg x=some (.ref f)) (hk:PySem.W.keepIn X.K (.ref f)=true) (hb:Binds X.K fd ps [])
  (ha:PA X (e::es) (tMA X.K g E00 mr)) (hlen:∀env h ds h',mr env h=.ok ds h'->ds.length=np) (hdb:(x == ("__debug__" : Str))=false:=by decide) (he:starEach (e::es) X.env=(false,eval e X.env)::starEach es X.env:=by rfl) (hpl:(backTo pos (starEach es X.env)).any (·.1)=false:=by rfl) :
  PE X (.Call (.Name x p) (e::es) [] pos) (tM X.K g E00 (ah m mr)):=
 PE.imp (oP F hr hg hm hk hb ha hdb he hpl) fun σ H Q ⟨α,env,h,s,w⟩=>⟨α,env,h,s,w.bind.mono fun d1 h1 eq w1 v1 H1 α1 e1 hr1 r1=>by
  show spM X.K g np m (v1++[]) H1 Q E0
  rw[List.append_nil]
  refine⟨?_,α1,d1,h1,r1,hr1,w1.post e1⟩
  rw[<- r1.length]
  exact hlen env h d1 h1 eq⟩
noncomputable def ku (mb:MS) (mr:MF):MS:=fun env h=>match mb env h with
 | .ok fl h'=>.ok fl h'
 | .err x h'=>if (aV.contains x.cls&&(h'.take h.length).all (gD h.length))=true then (noR (mr [.exc x.cls x.fs] (h'.take h.length))).bind fun d h2=>.ok (.rt d) h2 else .bad
 | .bad=>.bad
theorem CT {body:List Stmt} {mb:MS} {mr:MF} {k:Nat} {f:Addr} {fd:FuncData} {ps:List Str} {i:Nat} {n y:Str} {np p1 p2 cpos rpos hpos pos:Pos}
  (hcl:mW X.K X.mg) (hgo:g=gOf X.mg) (pl:Plain X) (hN:X.N.Nodup) (hi:X.N[i]?=some n) (hl:X.env.scope.names.lookup n=some .local) (hgF:Gl X "FallError") (hgR:Gl X y)
  (F:FnH X.prog X.w X.K X.mg X.base k f fd ps (spM X.K g 1 mr)) (hr:bT k (unm X.A)) (hm:X.mg y=some (.ref f)) (hk:PySem.W.keepIn X.K (.ref f)=true) (hb:Binds X.K fd ps [])
  (hbd:∀(pn:List (Addr × Obj)) (xe:Value->Shared->Prop) (E:XK),h7 (X.wpn pn xe) E->Plain (X.wpn pn xe)->PassesOwn (model X.prog X.w) X.A X.env xe->PSs (X.wpn pn xe) body (tMS X.K g (εX g E) mb))
  (hdn:(n == ("__debug__" : Str))=false:=by decide) (hdc:(n == ("__classdict__" : Str))=false:=by decide) (hdb:(y == ("__debug__" : Str))=false:=by decide)
  (hst:starEach [.Name n p2] X.env=(false,eval (.Name n p2) X.env)::starEach [] X.env:=by rfl) (hpl:(backTo cpos (starEach [] X.env)).any (·.1)=false:=by rfl) :
  PS X (.Try body [.ExceptHandler (some (.Name "FallError" np)) (some n) [.Return (some (.Call (.Name y p1) [.Name n p2] [] cpos)) rpos] hpos] [] [] pos) (tMS X.K g ε (ku mb mr)):=by
 intro pins s σ H D I ⟨α,env,h,sr,w⟩
 obtain⟨CF,hmF⟩:=hcl.at_ "FallError" (by decide)
 refine wpAny_Try_except ?_
 let K1:Value->Shared->Prop:=fun e s₁=>wpAny (model X.prog X.w) X.A (noteFrame e X.env) (fun _ s₂=>wpAny (model X.prog X.w) X.A (setFlight e none) (fun _ s₃=>wpAny (model X.prog X.w) X.A (handleBy e X.env [.ExceptHandler (some (.Name "FallError" np)) (some n) [.Return (some (.Call (.Name y p1) [.Name n p2] [] cpos)) rpos] hpos]) (SP X pins D) X.xe s₃) X.xe s₂) X.xe s₁
 let E1:XK:=fun C dc H'=>∃α' x h',mb env h=.err x h'/\Ext X.K α H α' H'/\aM X.K g α' H' h'/\(∃C0,C=.ref C0/\g x.cls=some C0)/\XFs H' dc x.fs
 have un:∀{σ:St} {H:Hp} {s:Shared},Inv (X.wpn (X.pn++pins) K1) [] σ H s->Inv X pins σ H s:=fun J=>J.Cf fun p hp=>by simpa using hp
 have fl:h7 (X.wpn (X.pn++pins) K1) E1:=by
  rintro e s1 ⟨σ1,H1,B,a,C,dc,rfl,J,ar,cv,pn,α',x,h',eq,ext,hr',⟨C0,rfl,hgC⟩,xf⟩
  have ar':Arr B (X.env::X.outer) a (.ref C0) dc s1.heap:=by rw[<- pl.stk.1];exact ar
  have hA:X.A.frames=some (X.env::X.outer):=by rw[<- pl.stk.1];exact J.ok.frames
  have pl1:Plain (X.wpn (X.pn++pins) K1):=⟨pl.ex,pl.stk⟩
  unfold ku at w
  rw[eq] at w
  obtain⟨low,w⟩:=WQ.bI w
  rw[Bool.and_eq_true] at low
  obtain⟨hcn,low⟩:=low
  refine p0 hA pl.stk.2 ar' fun h2 y2 g2=>mY y2 fun h3 y3 g3=>?_
  have J3:Inv (X.wpn (X.pn++pins) K1) [] σ1 H1 { s1 with heap:=h3 }:=J.flew (t':=s1.toks) pl1 cv pn ar.stays ar.fr y3.stays (g2.trans g3)
  refine wpAny_handleBy_cons (codeAny_handlers_test ?_) (by intro q;cases q)
  have J3h:Inv ((X.wpn (X.pn++pins) K1).hand (X.A.mark (some (.ref a))) (X.pn++pins) fun _ _=>False) [] σ1 H1 { s1 with heap:=h3 }:=Inv.hand (A:=X.A.mark (some (.ref a))) (pn:=X.pn++pins) J3 rfl (fun p hp=>hp) _
  refine fR J3h hgF hmF ?_
  obtain⟨ob,ws0,hob,hoc,_,_⟩:=y3.there
  have LT:PySem.W.Looks (model X.prog X.w) h3 (typeOf (.ref a)) (.ref C0):=hoc ▸ (PySem.W.Looks.ld hob).andThen .now
  have hx:PySem.W.exmOne X.K (.ref C0) (.ref CF)=some true:=by
   subst hgo
   exact hcl.exm x.cls (by simpa using hcn) C0 (gO hgC) CF hmF
  refine(PySem.W.exm_one J3.kIn LT hx).here ?_
  refine codeAny_handlers_suite_as ?_
  refine mY y3 fun h4 y4 g4=>?_
  have J4:Inv (X.wpn (X.pn++pins) K1) [] σ1 H1 { s1 with heap:=h4 }:=J.flew (t':=s1.toks) pl1 cv pn ar.stays ar.fr y4.stays (g2.trans (g3.trans g4))
  obtain⟨oe,ws,q1,q2,q3,q4⟩:=y4.there
  have fr4:h4.FunFrames B X.stack:=by rw[pl.stk.1];exact y4.fr
  obtain⟨hn,J5⟩:=J4.adopt pl1 cv pn fr4 y4.new q1 q4
  refine eC (X:=X.wpn (X.pn++pins) K1) J5 hN hi (.inl hl) (v:=.ref a) (u:=.ref a) rfl (fun s6 J6=>?_) (.inr hl)
  have J7:Inv ((X.wpn (X.pn++pins) K1).hand (X.A.mark (some (.ref a))) (X.pn++pins) fun _ _=>False) [] (σ1.set i (some (.ref a))) (upd H1 a (AtO a oe)) s6:=Inv.hand (A:=X.A.mark (some (.ref a))) (pn:=X.pn++pins) J6 rfl (fun p hp=>hp) _
  have T:=rJ (vV (pos:=rpos) (oP (X:=(X.wpn (X.pn++pins) K1).hand (X.A.mark (some (.ref a))) (X.pn++pins) fun _ _=>False) (p:=p1) (pos:=cpos) F hr hgR hm hk hb (cU (wK (pos:=p2) hi (.inl hl) hdn hdc) gw hst) hdb hst hpl))
  have lenσ:i<σ1.length:=by rw[J.len];exact(List.getElem?_eq_some_iff.mp hi).1
  refine wpAny_mono (T [] s6 _ _ { nx:=fun _ _=>False,rt:=D.rt } J7 ⟨.ref a,by simp[lenσ],?_⟩) (fun fl s7 q=>?_) fun _ _ z=>z.elim
  ·show spM X.K g 1 mr ([.ref a]++[]) (upd H1 a (AtO a oe)) D.rt E0
   have k0:α.length=h.length:=sr.heap.len
   have fz:∀p o u,H1 p=some (.frz o u)->upd H1 a (AtO a oe) p=some (.frz o u):=fun p o u z=>by rw[ay (aI z hn)];exact z
   have Lw:lO X.K α α' H1 (upd H1 a (AtO a oe)) h.length:=⟨fun m hm=>jO ext.pre (by omega),fun p xs z=>by rw[ay (aI z hn)];exact z,fz⟩
   have kp:∀m p u,m<h.length->α'[m]?=some p->H1 p=some u->upd H1 a (AtO a oe) p=some u:=fun m p u _ _ z=>by rw[ay (aI z hn)];exact z
   have ex2:Ext X.K α H α (upd H1 a (AtO a oe)):=⟨⟨List.prefix_refl _,fun p xs z=>Lw.tup p xs (ext.tup p xs z),fun p o u z=>fz p o u (ext.frz p o u z)⟩,fun p u z m=>by
    have:=ext.keep p u z m
    rw[ay (aI this hn)];exact this,fun _ z m=>absurd z m⟩
   refine⟨rfl,α,[.exc x.cls x.fs],h'.take h.length,.cons (.exc hgC aJ q2 ⟨ws,q4⟩ ?_) .nil,⟨?_,sr.heap.inj,fun m p ob h1 h2=>?_⟩,?_⟩
   ·rw[q3]
    exact xf.elim .inl fun⟨dx,od,z1,z2⟩=>.inr ⟨dx,od,z1,fz _ _ _ z2⟩
   ·rw[List.length_take,<- hr'.len,k0]
    have:=ext.pre.length_le
    omega
   ·have hm:m<h.length:=(jZ h2).1
    rw[jO ext.pre (by omega)] at h1
    exact pH k0 ext hr' low Lw kp m p ob hm h1 h2
   ·refine((nk w.bind).ext ex2).mono fun d h2 _ kk v H2 α2 e2 r2 rd=>?_
    exact(show cy X.K g α H D (.rt d) h2 from kk) H2 α2 (ex2.trans e2) r2 v rd
  ·cases fl with
   | ret u=>
    obtain⟨v,σ7,H7,J8,rv,q⟩:=q
    obtain⟨m,hm7,_⟩:=J8.loc
    have J9:Inv X pins σ7 H7 s7:=un (Inv.back (pins:=[]) J8 J.ok fun p hp=>hp)
    refine wpAny_nameGoes_keeps hl hm7 (by rw[I.ok.kind];rfl) fun h8 v8 hn8 sb=>?_
    exact⟨v,σ7.set i none,H7,J9.forget hN hi hm7 hn8 (fun z hz=>if_neg hz) sb,rv,q⟩
   | next=>obtain⟨_,_,_,q⟩:=q;exact q.elim
   | brk=>obtain⟨_,_,_,q⟩:=q;exact q.elim
   | cont=>obtain⟨_,_,_,q⟩:=q;exact q.elim
 have I1:Inv (X.wpn (X.pn++pins) K1) [] σ H s:=I.wpn (fun p hp=>by simpa using hp) _
 refine wpAny_mono (hbd (X.pn++pins) K1 E1 fl ⟨pl.ex,pl.stk⟩ PassesOwn.looking [] s σ H D I1 ⟨α,env,h,sr,?_⟩) (fun f s1 q=>?_) fun _ _ z=>z
 ·unfold ku at w
  cases eq:mb env h with
  | ok fl h'=>rw[eq] at w;exact w
  | err x h'=>exact fun α' H' e r C dc hg xf=>⟨α',x,h',eq,e,r,⟨C,rfl,hg⟩,xf⟩
  | bad=>rw[eq] at w;exact w.elim
 ·cases f with
  | next=>obtain⟨σ',H',J,q⟩:=q;exact wpAny_execs_nil ⟨σ',H',un J,q⟩
  | brk=>obtain⟨σ',H',J,q⟩:=q;exact⟨σ',H',un J,q⟩
  | cont=>obtain⟨σ',H',J,q⟩:=q;exact⟨σ',H',un J,q⟩
  | ret u=>obtain⟨v,σ',H',J,r,q⟩:=q;exact⟨v,σ',H',un J,r,q⟩
end
end L2.FE
namespace L2
open PySem PySem.Spec PyProof.Rows
theorem vQ {k:Nat} {A:Around} (h:bT k A):bT k (unm A):=⟨rfl,h.dp,h.un,h.gd⟩
inductive RdE (K:PySem.W.Frag) (H:Hp):V->PyData->Prop
 | non:RdE K H .non .none
 | bl (b:Bool):RdE K H (.bl b) (.bool b)
 | int (i:Int):RdE K H (.int i) (.int i)
 | str (x:Str):RdE K H (.str x) (.str x)
 | tup {a:Addr} {xs:List V} {ds:List PyData} (h:SqT K H a xs) (hl:xs.length=ds.length) (hx:∀(i:Nat) x d,xs[i]?=some x->ds[i]?=some d->RdE K H x d):RdE K H (.ref a) (.tuple ds)
 | edic {a:Addr} {o:Obj} (h:H a=some (.frz o (.dK []))):RdE K H (.ref a) (.dict [])
theorem mE {h:Heap}:∀{us:List Value} {ds:List PyData},us.length=ds.length->(∀(i:Nat) u d,us[i]?=some u->ds[i]?=some d->∃as,Reads h u d as/\sysModules∉as)->∃as,ReadsAll h us ds as/\sysModules∉as
 | [],[],_,_=>⟨_,.nil,by simp⟩
 | [],_::_,hl,_=>by simp at hl
 | _::_,[],hl,_=>by simp at hl
 | u::us,d::ds,hl,hx=>by
  obtain⟨as,h1,n1⟩:=hx 0 u d rfl rfl
  obtain⟨bs,h2,n2⟩:=mE (us:=us) (ds:=ds) (by simpa using hl) fun i u d e1 e2=>hx (i+1) u d (by simpa using e1) (by simpa using e2)
  exact⟨_,.cons h1 h2,by simp[n1,n2]⟩
section
variable {X:Cx}
theorem Inv.wd {pins:List (Addr × Obj)} {σ:St} {H:Hp} {s:Shared} (I:Inv X pins σ H s) {x:V} {d:PyData} (r:RdE X.K H x d):∀u,RelV x u->∃as,Reads s.heap u d as/\sysModules∉as:=by
 induction r with
 | non=>intro u ru;cases (show u=Value.none from ru);exact⟨_,.none,by simp⟩
 | bl b=>intro u ru;cases (show u=Value.bool b from ru);exact⟨_,.bool b,by simp⟩
 | int i=>intro u ru;obtain⟨t,q⟩:=(show ∃t,u=Value.int i t from ru);cases q;exact⟨_,.int i t,by simp⟩
 | str y=>intro u ru;obtain⟨t,q⟩:=(show ∃t,u=Value.str y t from ru);cases q;exact⟨_,.str y t,by simp⟩
 | @tup a xs ds h hl hx ih=>
  intro u ru
  cases (show u=Value.ref a from ru)
  obtain⟨its,rv,p,hz⟩:=I.tuple h
  obtain⟨o,ho,hc,n,hd⟩:=p
  obtain⟨as,ra,na⟩:=mE (h:=s.heap) (us:=its) (ds:=ds) (by rw[<- rv.length,hl]) fun i u d e1 e2=>by
   obtain⟨y,e3,ry⟩:=rv.get' e1
   exact ih i y d e3 e2 u ry
  exact⟨_,.tuple ho hc hd (by simpa using ra),na⟩
 | @edic a o h=>
  intro u ru
  cases (show u=Value.ref a from ru)
  obtain⟨_,_,na,vs,kv,o',es,ep,e1,e2,e3,e4⟩:=I.hok a _ h
  have hv:vs=[]:=by cases kv;rfl
  subst hv
  have he:es.toList=[]:=by
   have:=e4.2.1.length
   simpa using this
  exact⟨_,.dict (kvs:=[]) (as:=[]) (bs:=[]) e1 e2.1 e3 (by rw[he];exact .nil) (by rw[he];exact .nil),by simpa using fun z=>(by rw[<- z] at na;simp at na)⟩
theorem qS (hg:X.A.guards=some []) (hu:X.A.units+64<cLine):aR X (.builtin "repr") (fun vs H Q=>∃p d,vs=[.ref p]/\RdE X.K H (.ref p) d/\d.showable=true/\d.depth<=60/\d.shown.length<=sizeLine/\Q (.str d.shown) H):=by
 intro pins s σ H xs us Q I r h
 obtain⟨p,d,rfl,rd,hs,hdp,hz,q⟩:=h
 obtain⟨u,rfl,rx⟩:=vals1 r
 cases rx
 obtain⟨as,ra,na⟩:=I.wd rd (.ref p) rfl
 exact repr_of_reads' ra hs (fun _=>na) hg (by omega) (fun _ _ e=>e) (fun h' u tk kp=>⟨.str d.shown,H,I.kept kp,⟨_,rfl⟩,q⟩) hz
theorem qy:aR X (.builtin "repr") (fun vs H Q=>vs=[.non]/\Q (.str "None") H):=by
 intro pins s σ H xs us Q I r h
 obtain⟨rfl,q⟩:=h
 obtain⟨u,rfl,rx⟩:=vals1 r
 cases (show u=Value.none from rx)
 exact PySem.P.repr_of_none ⟨.str "None", H,I.tok _,⟨_,rfl⟩,q⟩
theorem qq:aR X (.builtin "repr") (fun vs H Q=>∃b,vs=[.bl b]/\Q (.str (if b then "True" else "False")) H):=by
 intro pins s σ H xs us Q I r h
 obtain⟨b,rfl,q⟩:=h
 obtain⟨u,rfl,rx⟩:=vals1 r
 cases (show u=Value.bool b from rx)
 exact PySem.P.repr_of_bool ⟨.str (if b then "True" else "False"),H,I.tok _,⟨_,rfl⟩,q⟩
theorem rn:aR X (.builtin "repr") (fun vs H Q=>∃x,vs=[.str x]/\(reprText x).length<=sizeLine/\Q (.str (reprText x)) H):=by
 intro pins s σ H xs us Q I r h
 obtain⟨x,rfl,hz,q⟩:=h
 obtain⟨u,rfl,t,rfl⟩:=vals1 r
 exact PySem.P.repr_of_str ⟨.str (reprText x),H,I.tok _,⟨_,rfl⟩,q⟩ hz
end
end L2
namespace L2.FE
open PySem PySem.Spec PyProof.Rows
noncomputable def mm:Nat->D->Option PyData
 | 0,_=>none
 | k+1,d=>match d with
  | .non=>some .none
  | .bl b=>some (.bool b)
  | .int i=>if sml i=true then some (.int i) else none
  | .str x=>if x.cps.toList.all (fun c=>decide (c<16 ^ 8))=true then some (.str x) else none
  | .tup ds=>(bj (mm k) ds).map .tuple
  | .edic=>some (.dict [])
  | _=>none
structure sC (k:Nat) (d:PyData):Prop where
 sh:d.showable=true
 dp:d.depth<=k
 lv:d.leavesShort 1921=true
structure vh (k:Nat) (ds:List PyData):Prop where
 sh:PyData.showableAll ds=true
 dp:PyData.depthAll ds<=k
 lv:PyData.leavesShortAll 1921 ds=true
section
variable {K:PySem.W.Frag} {g:GG} {α:List Addr} {H:Hp} {h:Hh} {X:Cx} {ε:EE}
theorem mz {f:D->Option PyData} {k:Nat} (hf:∀d x p,aC K g α H d x->f d=some p->RdE K H x p/\sC k p):∀{ds:List D} {vs:List V} {ps:List PyData},ao K g α H ds vs->bj f ds=some ps →
  vh k ps/\vs.length=ps.length/\∀(i:Nat) x d,vs[i]?=some x->ps[i]?=some d->RdE K H x d
 | _,_,_,.nil,e=>by
  cases e
  exact⟨⟨by simp[PyData.showableAll],by simp[PyData.depthAll],by simp[PyData.leavesShortAll]⟩,rfl,fun i x d h=>by simp at h⟩
 | _,_,_,.cons r t,e=>by
  unfold bj at e
  split at e
  ·rename_i p ps h1 h2
   cases e
   obtain⟨a1,a2⟩:=hf _ _ _ r h1
   obtain⟨b1,b2,b3⟩:=mz hf t h2
   refine⟨⟨by rw[PyData.showableAll,a2.sh,b1.sh];rfl,by rw[PyData.depthAll];exact Nat.max_le.mpr ⟨a2.dp,b1.dp⟩,by rw[PyData.leavesShortAll,a2.lv,b1.lv];rfl⟩,by simp[b2],fun i x d hx hd=>?_⟩
   cases i with
   | zero=>simp at hx hd;subst hx hd;exact a1
   | succ i=>exact b3 i x d (by simpa using hx) (by simpa using hd)
  ·cases e
theorem oE:∀(k:Nat) (d:D) (x:V) (p:PyData),aC K g α H d x->mm k d=some p->RdE K H x p/\sC k p
 | 0,_,_,_,_,e=>by cases e
 | k+1,d,x,p,rd,e=>by
  unfold mm at e
  cases rd with
  | non=>cases e;exact⟨.non,by simp[PyData.showable],by simp[PyData.depth],by simp[PyData.leavesShort]⟩
  | bl b=>cases e;exact⟨.bl b,by simp[PyData.showable],by simp[PyData.depth],by simp[PyData.leavesShort]⟩
  | int i=>
   simp only at e
   split at e
   ·rename_i hs
    cases e
    have hl:i.natAbs.log2<1920:=Nat.lt_trans (fV hs) (by decide)
    exact⟨.int i,by simp[PyData.showable,hl],by simp[PyData.depth],by simp only[PyData.leavesShort,decide_eq_true_eq];exact int_text_len_1921 hl⟩
   ·cases e
  | str z=>
   simp only at e
   split at e
   ·rename_i hs
    cases e
    exact⟨.str z,by simp[PyData.showable],by simp[PyData.depth],by simpa only[PyData.leavesShort] using hs⟩
   ·cases e
  | edic hp=>cases e;exact⟨.edic hp,by simp[PyData.showable,PyData.showableKv],by simp[PyData.depth,PyData.depthKv],by simp[PyData.leavesShort,PyData.leavesShortKv]⟩
  | tup hp rs=>
   simp only at e
   cases e1:bj (mm k) _ with
   | none=>rw[e1] at e;cases e
   | some ps=>
    rw[e1] at e
    cases e
    obtain⟨b1,b2,b3⟩:=mz (fun d x p=>oE k d x p) rs e1
    exact⟨.tup (SqT.of hp) b2 b3,by rw[PyData.showable];exact b1.sh,by rw[PyData.depth];exact Nat.succ_le_succ b1.dp,by rw[PyData.leavesShort];exact b1.lv⟩
  | _=>cases e
noncomputable def yB (d:D) (h:Hh):R D:=match mm 12 d with
 | some p=>if p.bulk<=8000 then .ok (.str p.shown) h else .bad
 | none=>.bad
noncomputable def qF:List D->Hh->R D:=fun ds h=>match ds with
 | [.non]=>.ok (.str "None") h
 | [.bl b]=>.ok (.str (if b then "True" else "False")) h
 | [.str x]=>if (reprText x).length<=1000000 then .ok (.str (reprText x)) h else .bad
 | [.tup ds]=>yB (.tup ds) h
 | [.edic]=>yB .edic h
 | _=>.bad
noncomputable def fF:List D->Hh->R D:=fun ds h=>match pe ds h with
 | .ok d h'=>.ok d h'
 | _=>qF ds h
noncomputable abbrev fO (K:PySem.W.Frag):List V->Hp->VK->Prop:=fun vs H Q=>m6 K vs H Q\/(∃p d,vs=[.ref p]/\RdE K H (.ref p) d/\d.showable=true/\d.depth<=60/\d.shown.length<=sizeLine/\Q (.str d.shown) H)\/(vs=[.non]/\Q (.str "None") H)\/(∃b,vs=[.bl b]/\Q (.str (if b then "True" else "False")) H)\/∃x,vs=[.str x]/\(reprText x).length<=sizeLine/\Q (.str (reprText x)) H
theorem wt (hg:X.A.guards=some []) (hu:X.A.units+64<cLine):aR X (.builtin "repr") (fO X.K):=aR.or (yp hg hu) (aR.or (qS hg hu) (aR.or qy (aR.or qq rn)))
theorem vC:g6 K g ε fF (fO K):=by
 intro α H h a x Q r ra w
 unfold fF at w
 cases e:pe a h with
 | ok d h'=>rw[e] at w;exact .inl (yE α H h a x Q r ra (by rw[e];exact w))
 | err z h'=>rw[e] at w;exact im α H h a x Q r ra w
 | bad=>rw[e] at w;exact im α H h a x Q r ra w
where
 im (α H h a x Q) (r:aM K g α H h) (ra:ao K g α H a x) (w:WQ K g ε α H (qF a h) (aB K g α H Q)):fO K x H Q:=by
  unfold qF at w
  have gen:∀{d:D} {v:V},aC K g α H d v->(∃p,v=.ref p)->WQ K g ε α H (yB d h) (aB K g α H Q)->fO K [v] H Q:=by
   intro d v rd ⟨p,hp⟩ w
   subst hp
   unfold yB at w
   cases e:mm 12 d with
   | none=>simp only[e] at w;exact w.elim
   | some pd=>
    simp only[e] at w
    obtain⟨hb,w⟩:=WQ.bI w
    obtain⟨q1,q2⟩:=oE 12 d _ pd rd e
    have:=PyData.shown_le_bulk 1921 (by decide) pd q2.lv
    exact .inr (.inl ⟨p,pd,rfl,q1,q2.sh,Nat.le_trans q2.dp (by decide),by rw[sizeLine_eq];omega,aB.now w r (.str _)⟩)
  cases ra with
  | nil=>exact w.elim
  | cons rd rr=>
   cases rr with
   | cons _ _=>cases rd<;>exact w.elim
   | nil=>
    cases rd with
    | non=>exact .inr (.inr (.inl ⟨rfl,aB.now w r (.str _)⟩))
    | bl b=>exact .inr (.inr (.inr (.inl ⟨b,rfl,aB.now w r (.str _)⟩)))
    | str z=>
     obtain⟨hz,w⟩:=WQ.bI w
     exact .inr (.inr (.inr (.inr ⟨z,rfl,dQ hz,aB.now w r (.str _)⟩)))
    | tup hp rs=>exact gen (.tup hp rs) ⟨_,rfl⟩ w
    | edic hp=>exact gen (.edic hp) ⟨_,rfl⟩ w
    | _=>exact w.elim
theorem pQ {ds:List D} {d:D} {h h':Hh} (e:pe ds h=.ok d h'):fF ds h=.ok d h':=by unfold fF;rw[e]
end
theorem us0 {P:List Value->Prop} {us:List Value} (hl:us.length=0) (h:P []):P us:=by cases us with | nil=>exact h | cons _ _=>cases hl
theorem us1 {P:List Value->Prop} {us:List Value} (hl:us.length=1) (h:∀a,P [a]):P us:=by cases us with | nil=>cases hl | cons a us=>exact us0 (P:=fun us=>P (a::us)) (Nat.succ.inj hl) (h a)
theorem us2 {P:List Value->Prop} {us:List Value} (hl:us.length=2) (h:∀a b,P [a,b]):P us:=by cases us with | nil=>cases hl | cons a us=>exact us1 (P:=fun us=>P (a::us)) (Nat.succ.inj hl) (h a)
theorem us3 {P:List Value->Prop} {us:List Value} (hl:us.length=3) (h:∀a b c,P [a,b,c]):P us:=by cases us with | nil=>cases hl | cons a us=>exact us2 (P:=fun us=>P (a::us)) (Nat.succ.inj hl) (h a)
theorem ir {fd:FuncData} {ps:List Str} {us:List Value} (hl:us.length=1) (h:∀a:Value,bindArgs fd ⟨[a],[]⟩=pure (ps.zip [a])):bindArgs fd ⟨us,[]⟩=pure (ps.zip us):=us1 (P:=fun us=>bindArgs fd ⟨us,[]⟩=pure (ps.zip us)) hl h
theorem x9 {fd:FuncData} {ps:List Str} {us:List Value} (hl:us.length=2) (h:∀a b:Value,bindArgs fd ⟨[a,b],[]⟩=pure (ps.zip [a,b])):bindArgs fd ⟨us,[]⟩=pure (ps.zip us):=us2 (P:=fun us=>bindArgs fd ⟨us,[]⟩=pure (ps.zip us)) hl h
theorem D8 {fd:FuncData} {ps:List Str} {us:List Value} (hl:us.length=3) (h:∀a b c:Value,bindArgs fd ⟨[a,b,c],[]⟩=pure (ps.zip [a,b,c])):bindArgs fd ⟨us,[]⟩=pure (ps.zip us):=us3 (P:=fun us=>bindArgs fd ⟨us,[]⟩=pure (ps.zip us)) hl h
end L2.FE
namespace PySem
open Sem (wp)
section
variable {prog:Program} {w:World} {A:Around} {E:Value->Shared->Prop} {h:Heap} {g:Array GenState} {d:Drawn} {t:Nat} {os:OsState}
variable {nm q:Str} {C N:Addr} {bs bm bmB:List Value} {hdct:Bool} {sn:List Str} {sub:List Value} {ab:Bool} {col:Option Bool} {dd:Option Addr} {k0 k1 k2 k3 k5:Option Value} {B newId initId:String}
theorem jo (F:ExcBaseFacts B newId initId bmB) (T:OwnTail h bmB bm) {mN:Str->Option Value} {rest:List Value} {fI:Addr} {oI:Obj} {Q:Fin->Shared->Prop}
  (hC:h.get? C=some (excClassObj nm q C N bs bm hdct sn sub ab col dd k0 k1 k2 k3 k5 newId)) (hn:h.Ns N mN) (hi:mN "__init__" = some (.ref fI)) (hfI:h.get? fI=some oI) (hfc:oI.cls=.type "function")
  (hq:∀h' e,Heap.MadeExcOf h h' e (.ref C) rest->e=h.objs.size+1->h'.objs.size=h.objs.size+2->wpAny (model prog w) A (call (.ref fI) (.ref e::rest)) (fun r s'=>r=.none/\Q (.done (.ret (.ref e))) s') E ⟨h',g,d,t,os⟩) (hrest:rest.length<=sizeLine) :
  wpAny (model prog w) A (Builtin.«type.__call__» ⟨.ref C::rest,[]⟩) Q E ⟨h,g,d,t,os⟩:=by
 repeat (first | with_reducible refine wpAny_loadPart_at hC ?_ | with_reducible refine wpAny_madeBy_exc hC ?_ | wp_step)
 refine codeAny_call_builtin_code (Code.quiet_builtin _ F.quiet) (wpAny_check_new_subT F T hC ?_)
 refine codeAny_exc_new_subT F T hC ?_ hrest
 show wpAny _ _ _ _ _ _
 have up:∀b o,h.get? b=some o->((h.push { cls:=.type "tuple", data:=.seq rest.toArray }).push { cls:=.ref C,data:=.fields #[.ref h.objs.size,.none,.none,.none,.bool false,.none] }).get? b=some o:=fun b o z=>Heap.get?_push_of_some _ (Heap.get?_push_of_some _ z)
 have hC1:=up _ _ hC
 have hfI1:=up _ _ hfI
 have hn1:((h.push { cls:=.type "tuple", data:=.seq rest.toArray }).push { cls:=.ref C,data:=.fields #[.ref h.objs.size,.none,.none,.none,.bool false,.none] }).Ns N mN:=hn.keeps up
 have hget:((h.push { cls:=.type "tuple", data:=.seq rest.toArray }).push { cls:=.ref C,data:=.fields #[.ref h.objs.size,.none,.none,.none,.bool false,.none] }).get? (h.objs.size+1)=some { cls:=.ref C,data:=.fields #[.ref h.objs.size,.none,.none,.none,.bool false,.none] }:=by heap_get
 have hcC:(Value.ref C::bm).contains (.ref C)=true:=by simp
 have T1:=T.keeps up
 unfold isInstance
 repeat (first | with_reducible refine wpAny_loadPart_at hget ?_ | (with_reducible refine wpAny_isSubtype_exc hC1 ?_;rw[hcC]) | wp_step)
 show wpAny _ _ (typeLookup (.ref C) _) _ _ _
 refine wpAny_typeLookup_tail hC1 hn1 T1 F.mroIs F.init.lookup ?_
 rw[hi]
 refine wpAny_holding (wpAny_bind ?_)
 unfold bindSpecial
 refine wpAny_bind (wpAny_typeOf (T:="function") ⟨_,hfI1,hfc⟩ ?_)
 rw[if_pos (by decide)]
 refine wpAny_pure (wpAny_bind (wpAny_mono (hq _ (h.objs.size+1) ⟨up,Heap.get?_none_of_le (Nat.le_succ _),h.objs.size,hget,Heap.get?_none_of_le (Nat.le_refl _),?_⟩ rfl (by rw[Heap.size_push,Heap.size_push])) (fun r s' hr=>?_) fun _ _ x=>x))
 ·exact Heap.get?_push_of_some _ (Heap.get?_push_at rfl rfl)
 ·obtain⟨rfl,hQ⟩:=hr
  wp_walk
  exact hQ
theorem qu (F:ExcBaseFacts B newId initId bmB) (T:OwnTail h bmB bm) {mN:Str->Option Value} {rest:List Value} {fI:Addr} {oI:Obj} {Q:Value->Shared->Prop}
  (hC:h.get? C=some (excClassObj nm q C N bs bm hdct sn sub ab col dd k0 k1 k2 k3 k5 newId)) (hn:h.Ns N mN) (hi:mN "__init__" = some (.ref fI)) (hfI:h.get? fI=some oI) (hfc:oI.cls=.type "function")
  (hq:∀h' e,Heap.MadeExcOf h h' e (.ref C) rest->e=h.objs.size+1->h'.objs.size=h.objs.size+2->wpAny (model prog w) (A.under (.builtin "type.__call__" ⟨.ref C::rest,[]⟩)) (call (.ref fI) (.ref e::rest)) (fun r s'=>r=.none/\Q (.ref e) s') E ⟨h',g,d,t,os⟩) (hrest:rest.length<=sizeLine) :
  wpAny (model prog w) A (call (.ref C) rest) Q E ⟨h,g,d,t,os⟩:=by
 have f1:=tc_lookup
 have f2:=tc_bind (.ref C)
 have hT:(⟨h,g,d,t,os⟩:Shared).TypeIs (.ref C) "type" := ⟨_,hC,rfl⟩
 refine wpAny_call (codeAny_of_tree ?_)
 show wpAny _ _ (callAny (.ref C) _) _ _ _
 repeat (any_goals (first | assumption | with_reducible refine wpAny_loadPart_at hC ?_ | wp_step))
 refine⟨rfl,?_⟩
 refine codeAny_call_builtin_at (Code.quiet_builtin _ (by decide +kernel)) entry_typeCall (wpAny_check_type_call_sub hC (jo (hrest:=hrest) F T hC hn hi hfI hfc fun h' e hm he hs=>?_))
 exact hq h' e hm he hs
end
end PySem
namespace PySem.W
open PySem PySem.Calls PyProof.Rows PySem.Spec Builtin Builtin.ObjectAttr
noncomputable abbrev CU:List Value:=[.type "ValueError", .type "Exception", .type "BaseException", .type "object"]
noncomputable def vt:Value->Bool
 | .ref _=>true
 | _=>false
noncomputable def i9 (l:List Value):Bool:=l.dropWhile vt == CU
theorem fB {l:List Value} (e:i9 l=true):l=CU\/∃c r,l=.ref c::r/\i9 r=true:=by
 cases l with
 | nil=>cases e
 | cons a r=>
  by_cases h:vt a=true
  ·cases a with
   | ref c=>exact .inr ⟨c,r,rfl,by unfold i9 at e ⊢;rw[List.dropWhile_cons_of_pos h] at e;exact e⟩
   | _=>cases h
  ·unfold i9 at e
   rw[List.dropWhile_cons_of_neg h] at e
   exact .inl (beq_iff_eq.mp e)
theorem gL (self:Value):∀(n:Nat) {l:List Value},l.length<=n->i9 l=true->refuseLoop self "__setattr__" l=pure ()
 | 0,l,hl,e=>by
  have:l=[]:=List.eq_nil_of_length_eq_zero (by omega)
  subst this;cases e
 | n+1,l,hl,e=>by
  rcases fB e with rfl | ⟨c,r,rfl,e'⟩
  ·exact PySem.F.store_ValueError.passes self
  ·rw[refuseLoop_ref];exact gL self n (by simp at hl;omega) e'
theorem lN:∀(n:Nat) {l:List Value},l.length<=n->i9 l=true->l.contains (.type "object")=true
 | 0,l,hl,e=>by
  have:l=[]:=List.eq_nil_of_length_eq_zero (by omega)
  subst this;cases e
 | n+1,l,hl,e=>by
  rcases fB e with rfl | ⟨c,r,rfl,e'⟩
  ·simp
  ·rw[List.contains_cons,lN n (by simp at hl;omega) e',Bool.or_true]
noncomputable def dS (K:Frag) (C:Addr):Bool:=(clsIn K C).any fun cd=>i9 cd.mro
section
variable {K:Frag} {prog:Program} {w:World} {A:Around} {R:Result->Shared->Prop} {s:Shared} {x C:Addr}
theorem lX {ox:Obj} {od:Option Obj} {name:Str} {tk:Tok} {v:Value} (X:K.In s.heap) (I:InstAt s.heap x ox C od) (hp:dS K C=true) (ht:takerIn K C name=some none)
  (h:∀b,wpAny (model prog w) A.in1 (storeInOwnDict (.ref x) (.ref C) (.str name tk) name v b)
   (fun fin s'=>match fin with | .done f=>R (.ok f) s' | .again c'=>c'.quiet=true/\codeAny (model prog w) A c' R s') (fun e s'=>R (.error e) s') s) :
  codeAny (model prog w) A (.call (.builtin "object.__setattr__") ⟨[.ref x,.str name tk,v],[]⟩) R s:=by
 have SF:=PySem.F.store_object
 obtain⟨cd,hc,ho⟩:=any_some hp
 have ne:cd.mro.isEmpty=false:=by cases q:cd.mro with | nil=>rw[q] at ho;cases ho | cons _ _=>rfl
 have sub:Looks (model prog w) s.heap (isInstance (.ref x) (.type "object")) true:=I.type.andThen (looks_mroIn X (by unfold mroIn;rw[hc,Option.bind_some,if_neg (by rw[ne];decide),lN _ (Nat.le_refl _) ho]))
 refine codeAny_call_builtin SF.slot.plain SF.entry (@check_slot (model prog w) _ _ s "object.__setattr__" "object" "__setattr__" (.ref x) [.str name tk,v] [] _ SF.kind SF.split sub (SF.args (.ref x) (.str name tk) v) ?_)
 obtain⟨attr,ha,hr⟩:=Option.bind_eq_some_iff.mp ht
 have hm:Looks (model prog w) s.heap (mroOf (.ref C)) cd.mro:=(looks_clsIn X hc).andThen .now
 have L3:Looks (model prog w) s.heap (storeTaker? attr) none:=by
  cases attr with
  | none=>exact .now
  | some a=>
   obtain⟨b,hb,hz⟩:=Option.map_eq_some_iff.mp hr
   refine(looks_takesIn X hb).andThen ?_
   cases b with
   | true=>cases hz
   | false=>exact .now
 rw[osa_eq,refuse_eq]
 refine wpAny_bind (wpAny_bind (I.type.here (wpAny_bind (hm.here ?_))))
 rw[gL _ _ (Nat.le_refl _) ho]
 refine wpAny_pure (wpAny_bind (I.type.here (wpAny_bind ((looks_findIn X ha).here (wpAny_bind (L3.here ?_))))))
 exact h _
theorem vZ {E:Value->Shared->Prop} {ws:Array Value} {name:Str} {v:Value} {Q:Unit->Shared->Prop} (X:K.In s.heap) (hx:s.heap.get? x=some { cls:=.ref C,data:=.fields ws })
  (hs:findIn K (.ref C) "__setattr__" = some (some (.builtin "object.__setattr__"))) (hp:dS K C=true) (ht:takerIn K C name=some none) (hh:hasDictIn K C=true)
  (h:∀h',h'.get? x=some { cls:=.ref C,dict:=some s.heap.objs.size,data:=.fields ws }->h'.Ns1 s.heap.objs.size (fun y=>if y=name then some v else none) →
   (∀b o,b≠x->s.heap.get? b=some o->h'.get? b=some o)->∀t',Q () { s with heap:=h',toks:=t' }) :
  wpAny (model prog w) A (setAttr (.ref x) name v) Q E s:=by
 have I:InstAt s.heap x { cls:=.ref C,data:=.fields ws } C none:=⟨hx,rfl,rfl,True.intro⟩
 refine set_plain X I hs (lX (s:={ s with toks:=s.toks+1 }) X I hp ht fun b=>?_)
 obtain⟨cd,hc,hd'⟩:=any_some hh
 refine wpAny_bind (wpAny_pure (wpAny_bind (wpAny_bind (wpAny_loadPart hx (wpAny_bind (Looks.here (s:={ s with toks:=s.toks+1 }) (looks_clsIn X hc) ?_))))))
 rw[hd']
 have hx1:(s.heap.push { cls:=.type "dict", data:=.dict #[] }).get? x=some { cls:=.ref C,data:=.fields ws }:=Heap.get?_push_of_some _ hx
 have hxs:x≠s.heap.objs.size:=Nat.ne_of_lt (Heap.lt_size hx)
 refine wpAny_bind (wpAny_alloc' ?_)
 refine wpAny_bind (wpAny_update' hx1 ?_)
 refine wpAny_pure ?_
 have hgd:((s.heap.push { cls:=.type "dict", data:=.dict #[] }).update x fun o=>{ cls:=o.cls,dict:=some s.heap.objs.size,data:=o.data,slots:=o.slots }).get? s.heap.objs.size=some { cls:=.type "dict", data:=.dict #[] }:=
  (Heap.get?_update_ne _ _ _ _ hxs.symm).trans (Heap.get?_push_at rfl rfl)
 have hnd:((s.heap.push { cls:=.type "dict", data:=.dict #[] }).update x fun o=>{ cls:=o.cls,dict:=some s.heap.objs.size,data:=o.data,slots:=o.slots }).Ns s.heap.objs.size (fun _=>none):=
  ⟨_,#[],_,hgd,rfl,fun e he=>absurd he (by simp),fun _=>rfl⟩
 show wpAny _ _ (storeInDict s.heap.objs.size (.str name s.toks) name v) _ _ _
 unfold storeInDict newKeyGuard
 refine wpAny_bind (wpAny_pure (wpAny_bind (wpAny_nsSet1 (Heap.Ns1.of_empty hnd) fun h' hn' hs'=>?_)))
 obtain⟨oD,esD,epD,hoD,hdD,hcD⟩:=hn'.count (PySem.Within.cons name v PySem.Within.nil)
 refine wpAny_bind (wpAny_lookBehind hoD (by rw[hdD];exact pastItsLine_dict (Nat.le_trans hcD (by rw[List.length_cons,List.length_nil,sizeLine_eq];omega))) ?_)
 refine wpAny_pure (h h' ?_ ?_ (fun b o hb z=>?_) _)
 ·refine(hs'.2 x hxs).trans ?_
  exact Heap.get?_update_self _ hx1 rfl
 ·obtain⟨o',es,ep,e1,e2,e3,eu,e4⟩:=hn'
  exact⟨o',es,ep,e1,e2,e3,eu,fun y=>by rw[e4 y]⟩
 ·exact(hs'.2 b (Nat.ne_of_lt (Heap.lt_size z))).trans ((Heap.get?_update_ne _ _ _ _ hb).trans (Heap.get?_push_of_some _ z))
theorem xg {E:Value->Shared->Prop} {ws:Array Value} {dx:Addr} {mA:Str->Option Value} {ns:List Str} {name:Str} {v:Value} {Q:Unit->Shared->Prop} (X:K.In s.heap) (hx:s.heap.get? x=some { cls:=.ref C,dict:=some dx,data:=.fields ws }) (hne:dx≠x) (hn:s.heap.Ns1 dx mA) (hw:PySem.Within mA ns) (hsz:ns.length<=1000)
  (hs:findIn K (.ref C) "__setattr__" = some (some (.builtin "object.__setattr__"))) (hp:dS K C=true) (ht:takerIn K C name=some none) (hh:hasDictIn K C=true)
  (h:∀h',h'.get? x=some { cls:=.ref C,dict:=some dx,data:=.fields ws }->h'.Ns1 dx (fun y=>if y=name then some v else mA y) →
   (∀b o,b≠dx->s.heap.get? b=some o->h'.get? b=some o)->∀t',Q () { s with heap:=h',toks:=t' }) :
  wpAny (model prog w) A (setAttr (.ref x) name v) Q E s:=by
 obtain⟨od,_,_,hod,_⟩:=id hn
 have I:InstAt s.heap x { cls:=.ref C,dict:=some dx,data:=.fields ws } C (some od):=⟨hx,rfl,rfl,hod⟩
 refine set_plain X I hs (lX (s:={ s with toks:=s.toks+1 }) X I hp ht fun b=>?_)
 obtain⟨cd,hc,hd'⟩:=any_some hh
 refine wpAny_bind (wpAny_pure (wpAny_bind (wpAny_bind (wpAny_loadPart hx (wpAny_bind (Looks.here (s:={ s with toks:=s.toks+1 }) (looks_clsIn X hc) ?_))))))
 rw[hd']
 refine wpAny_pure (a:=some dx) (wpAny_bind (wpAny_pure (wpAny_bind ?_)))
 refine wpAny_nsSet1 (s:={ s with toks:=s.toks+1 }) hn fun h' hn' hs'=>?_
 obtain⟨oD,esD,epD,hoD,hdD,hcD⟩:=hn'.count (PySem.Within.cons name v hw)
 refine wpAny_bind (wpAny_lookBehind hoD (by rw[hdD];exact pastItsLine_dict (Nat.le_trans hcD (by rw[List.length_cons,sizeLine_eq];omega))) ?_)
 exact wpAny_pure (h h' ((hs'.2 x hne.symm).trans hx) hn' (fun b o hb z=>(hs'.2 b hb).trans z) _)
end
end PySem.W
namespace PySem
open Sem (wp)
section
variable {M:Model} {A:Around} {E:Value->Shared->Prop} {env:Env}
variable {nm q:Str} {C N:Addr} {bs bm:List Value} {hdct:Bool} {sn:List Str} {sub:List Value} {ab:Bool} {col:Option Bool} {dd:Option Addr} {k0 k1 k2 k3 k5:Option Value} {newId:String}
theorem fJ {s:Shared} {x:Sem Value} {Q:Flow->Shared->Prop} (hbase:bm.contains (.type "BaseException")=true) (hh:A.handled=none)
  (h:wpAny M A x (fun v s₁=>∃e oe,v=.ref e/\s₁.heap.get? C=some (excClassObj nm q C N bs bm hdct sn sub ab col dd k0 k1 k2 k3 k5 newId)/\s₁.heap.get? e=some oe/\oe.cls=.ref C/\(∃ws,oe.data=.fields ws/\ws[1]?=some .none)/\E (.ref e) s₁) E s) :
  wpAny M A (raiseStmt env (some x) none) Q E s:=by
 have hcB:(Value.ref C::bm).contains (.type "BaseException")=true:=by rw[List.contains_cons,hbase,Bool.or_true]
 unfold raiseStmt
 refine wpAny_bind (wpAny_mono h (fun v s₁ h₁=>?_) fun _ _ x=>x)
 obtain⟨e,⟨ec,ed,eda,esl⟩,rfl,hC,he,hcl,⟨ws,hda,hw1⟩,hE⟩:=h₁
 dsimp only at hcl hda
 subst hcl hda
 obtain⟨hp,g,d,tk,os⟩:=s₁
 repeat (first | with_reducible refine wpAny_loadPart_at he ?_ | with_reducible refine wpAny_loadPart_at hC ?_ | (with_reducible refine wpAny_isSubtype_exc hC ?_;rw[hcB]) | wp_step)
 rw[hw1]
 refine wpAny_pure ?_
 rw[if_neg (by decide)]
 refine wpAny_pure ?_
 exact wpAny_raiseNew_none hh hE
end
section
variable {prog:Program} {w:World} {A:Around} {E:Value->Shared->Prop} {s:Shared} {env:Env}
variable {nm q:Str} {C N:Addr} {bs bm bmB:List Value} {hdct:Bool} {sn:List Str} {sub:List Value} {ab:Bool} {col:Option Bool} {dd:Option Addr} {k0 k1 k2 k3 k5:Option Value} {newId:String}
theorem qc {x:Str} {np cpos pos:Pos} {args:List Expr} {Q:Flow->Shared->Prop}
  (hbase:bm.contains (.type "BaseException")=true) (hh:A.handled=none) (hplain:(backTo cpos (starEach args env)).any (·.1)=false)
  (h:wpAny (model prog w) A (eval (.Name x np) env) (fun f s₁=>f=.ref C/\wpAny (model prog w) A (evalArgs (.ref C) true (backTo cpos (starEach args env)) [])
   (fun a s₂=>a.kw=[]/\s₂.heap.get? C=some (excClassObj nm q C N bs bm hdct sn sub ab col dd k0 k1 k2 k3 k5 newId) ∧
    wpAny (model prog w) A (call (.ref C) a.pos) (fun v s₃=>s₃.heap.get? C=some (excClassObj nm q C N bs bm hdct sn sub ab col dd k0 k1 k2 k3 k5 newId)/\∃e oe,v=.ref e/\s₃.heap.get? e=some oe/\oe.cls=.ref C/\(∃ws,oe.data=.fields ws/\ws[1]?=some .none)/\E (.ref e) s₃) E s₂) E s₁) E s) :
  wpAny (model prog w) A (exec (.Raise (some (.Call (.Name x np) args [] cpos)) none pos) env) Q E s:=by
 rw[arm_exec_Raise]
 first
  | refine wpAny_bind (wpAny_standAt (fJ (C:=C) (nm:=nm) (q:=q) (N:=N) (bs:=bs) (bm:=bm) (hdct:=hdct) (sn:=sn) (sub:=sub) (ab:=ab) (col:=col) (dd:=dd) (k0:=k0) (k1:=k1) (k2:=k2) (k3:=k3) (k5:=k5) (newId:=newId) hbase hh (wpAny_bind (wpAny_mono (wpAny_Call_ofName (wpAny_mono h (fun f s₁ h₁=>?_) fun _ _ x=>x)) (fun v s₃ h₃=>wpAny_bind (wpAny_standAt (wpAny_pure h₃))) fun _ _ x=>x))))
  | (simp only[evalOpt,Option.map];refine wpAny_bind (wpAny_standAt (fJ (C:=C) (nm:=nm) (q:=q) (N:=N) (bs:=bs) (bm:=bm) (hdct:=hdct) (sn:=sn) (sub:=sub) (ab:=ab) (col:=col) (dd:=dd) (k0:=k0) (k1:=k1) (k2:=k2) (k3:=k3) (k5:=k5) (newId:=newId) hbase hh (wpAny_bind (wpAny_mono (wpAny_Call_ofName (wpAny_mono h (fun f s₁ h₁=>?_) fun _ _ x=>x)) (fun v s₃ h₃=>wpAny_bind (wpAny_standAt (wpAny_pure h₃))) fun _ _ x=>x)))))
 obtain⟨rfl,h₁⟩:=h₁
 unfold callWith
 refine wpAny_bind (wpAny_holding (wpAny_mono h₁ (fun a s₂ h₂=>wpAny_bind (wpAny_standAt ?_)) fun _ _ x=>x))
 obtain⟨apos,akw⟩:=a
 obtain⟨hkw,hC,h₂⟩:=h₂
 obtain rfl:akw=[]:=hkw
 obtain⟨hp,g,d,tk,os⟩:=s₂
 simp only[hplain]
 refine wpAny_bind (wpAny_keeperOf_exc hC ?_)
 refine wpAny_bind (wpAny_mono h₂ (fun v s₃ h₃=>wpAny_bind (wpAny_holding (wpAny_point (wpAny_pure ?_)))) fun _ _ x=>x)
 obtain⟨hC3,e,oe,rfl,z1,z2,z3,z4⟩:=h₃
 exact⟨e,oe,rfl,hC3,z1,z2,z3,z4⟩
end
end PySem
namespace L2
open PySem PySem.Spec PyProof.Rows PySem.W
theorem rj {K:PySem.W.Frag} {h:Heap} {N:Addr} {mg:Str->Option Value} {n:Str} {v:Value} (X:K.In h) (G:h.Ns N mg) (e:nsIn K N n=some (some v)):mg n=some v:=by
 obtain⟨o,es,ep,ho,hd,_,hf⟩:=G
 unfold nsIn at e
 split at e
 ·rename_i c d es' n' sl q
  have:=X _ _ q
  rw[ho] at this
  cases this
  cases hd
  split at e
  ·rename_i en he
   cases e
   rw[<- hf]
   unfold nsFind findBy
   rw[<- Array.find?_toList,he]
   rfl
  ·split at e<;>cases e
 ·cases e
noncomputable def jS (K:PySem.W.Frag) (C fI:Addr):Bool:=match K.lookup C with
 | some ⟨.type "type", _,.cls cd,sl⟩=>(match cd.mro,sl.toList with
  | .ref C'::bm,[_,_,_,_,some (.builtin n),_]=>C' == C&&n == "ValueError.__new__" && !cd.hasDel&&tailIn K bmV bm&&nsOkIn K cd.ns&&nsIn K cd.ns "__init__" == some (some (.ref fI))
  | _,_=>false)
 | _=>false
theorem kN {K:PySem.W.Frag} {h:Heap} {C fI:Addr} (X:K.In h) (q:jS K C fI=true) :
  ∃bm N nm q' bs hdct sn sub ab col dd k0 k1 k2 k3 k5 mN,h.get? C=some (excClassObj nm q' C N bs bm hdct sn sub ab col dd k0 k1 k2 k3 k5 "ValueError.__new__")/\h.Ns N mN/\mN "__init__" = some (.ref fI)/\OwnTail h bmV bm:=by
 unfold jS at q
 split at q
 ·rename_i dd cd sl ho
  split at q
  ·rename_i C' bm k0 k1 k2 k3 n k5 hm hs
   simp only[Bool.and_eq_true,beq_iff_eq,Bool.not_eq_true'] at q
   obtain⟨⟨⟨⟨⟨rfl,rfl⟩,hdel⟩,ht⟩,hok⟩,hni⟩:=q
   obtain⟨nm,bs,mro,ns,qn,hd,sn,sub,ab,col,del⟩:=cd
   dsimp only at hm hdel hok hni
   subst hm hdel
   obtain rfl:sl = #[k0,k1,k2,k3,some (.builtin "ValueError.__new__"),k5]:=by
    obtain⟨l⟩:=sl
    simp only at hs
    rw[hs]
   exact⟨bm,ns,nm,qn,bs,hd,sn,sub,ab,col,dd,k0,k1,k2,k3,k5,_,X _ _ ho,.of_isNs (isNs_of_in X hok),rj X (.of_isNs (isNs_of_in X hok)) hni,tail_of_in X ht⟩
  ·cases q
 ·cases q
inductive je:List Stmt->List Str->Prop
 | nil:je [] []
 | cons {f:Str} {p1 p2 p3 p4:Pos} {r:List Stmt} {fs:List Str}:(f == ("__debug__" : Str))=false->je r fs->je (.Assign [.Attribute (.Name "self" p1) f p2] (.Name f p3) p4::r) (f::fs)
noncomputable def bz:Stmt->Stmt
 | .ClassDef _ _ _ (st::_) ..=>st
 | st=>st
structure yA (K:PySem.W.Frag) (x:Str) (cst:Stmt) (C:Addr) (fs:List Str):Prop where
 ex:∃fI fd qual,jS K C fI=true/\Fun K "__init__" qual (bz cst) fI fd/\Binds K fd ("self" :: fs) []/\typeIn K (.ref fI)=some (.type "function")
 sc:aP ("self" :: fs) ("self" :: fs) (aj (bz cst))
 loc:∀y∈("self" : Str)::fs,(aj (bz cst)).names.lookup y=some .local
 body:je (bq (bz cst)) fs
 sa:findIn K (.ref C) "__setattr__" = some (some (.builtin "object.__setattr__"))
 ov:dS K C=true
 tk:∀f∈fs,takerIn K C f=some none
 hd:hasDictIn K C=true
 ne:fs≠[]
section
variable {K:PySem.W.Frag} {prog:Program} {w:World} {A:Around} {E:Value->Shared->Prop} {C:Addr} {env:Env} {m:Str->Option Value} {e:Addr} {ws:Array Value}
theorem gS {s:Shared} {y:Str} {p:Pos} {v:Value} {Q:Value->Shared->Prop} (hk:env.scope.kind=.function) (hl:env.kindOf y=some .local) (hn:s.heap.Ns env.locals m) (hv:m y=some v) (hd:(y == ("__debug__" : Str))=false) (h:Q v s):wpAny (model prog w) A (eval (.Name y p) env) Q E s:=
 wpAny_Name (wpAny_loadName_local hk hl hn hv h) hd
theorem sG {h h':Heap} {a:Addr} {m:Str->Option Value} (n:h.Ns a m) (k:∀o,h.get? a=some o->h'.get? a=some o):h'.Ns a m:=let ⟨o,es,ep,q,r⟩:=n;⟨o,es,ep,k o q,r⟩
theorem mj (hk:env.scope.kind=.function) (hls:env.kindOf "self" = some .local) (sa:findIn K (.ref C) "__setattr__" = some (some (.builtin "object.__setattr__"))) (ov:dS K C=true) (hd:hasDictIn K C=true) {dx:Addr} (hms:m "self" = some (.ref e)) (hne:dx≠e) (hLe:env.locals≠e) (hLd:env.locals≠dx) :
  ∀{body:List Stmt} {fs:List Str} (_:je body fs) (_:∀f∈fs,takerIn K C f=some none/\env.kindOf f=some .local) {us:List Value} (_:us.length=fs.length) (_:∀(i:Nat) (f:Str) (u:Value),fs[i]?=some f->us[i]?=some u->m f=some u) {mA:Str->Option Value} {ns:List Str} (_:PySem.Within mA ns) (_:ns.length+fs.length<=1000) {s:Shared} {Q:Flow->Shared->Prop}
   (_:K.In s.heap) (_:∀a o,K.lookup a=some o->a≠dx) (_:s.heap.get? e=some { cls:=.ref C,dict:=some dx,data:=.fields ws }) (_:s.heap.Ns1 dx mA) (_:s.heap.Ns env.locals m)
   (_:∀h',h'.get? e=some { cls:=.ref C,dict:=some dx,data:=.fields ws }->h'.Ns1 dx ((fs.zip us).foldl (fun mA (p:Str × Value) y=>if y=p.1 then some p.2 else mA y) mA)->(∀b o,b≠dx->s.heap.get? b=some o->h'.get? b=some o)->∀t',Q .next { s with heap:=h',toks:=t' }),
   wpAny (model prog w) A (execs body env) Q E s
 | _,_,.nil,_,us,_,_,mA,ns,_,_,s,Q,X,_,hx,hn,_,h=>wpAny_execs_nil (h s.heap hx hn (fun _ _ _ z=>z) s.toks)
 | _,_,.cons (f:=f) (fs:=fs) hdb ib,hf,[],hl,_,mA,ns,_,_,s,Q,_,_,_,_,_,_=>by cases hl
 | _,_,.cons (f:=f) (fs:=fs) hdb ib,hf,u::us,hl,hm,mA,ns,hw,hz,s,Q,X,hK,hx,hn,hL,h=>by
  refine wpAny_execs_cons (plainObj_wpAny_Assign_Attribute ?_ rfl)
  refine gS hk (hf f (by simp)).2 hL (hm 0 f u rfl rfl) hdb (gS hk hls hL hms (by decide) ?_)
  refine xg X hx hne hn hw (by simp at hz;omega) sa ov (hf f (by simp)).1 hd fun h1 q1 q2 q3 t1=>?_
  refine mj hk hls sa ov hd hms hne hLe hLd ib (fun y hy=>hf y (by simp[hy])) (us:=us) (by simpa using hl) (fun i y v a b=>hm (i+1) y v a b) (PySem.Within.cons f u hw) (by simp at hz ⊢;omega) (s:={ s with heap:=h1,toks:=t1 })
   (fun a o z=>q3 a o (hK a o z) (X a o z)) hK q1 q2 (sG hL fun o z=>q3 _ o hLd z) fun h' r1 r2 r3 t'=>?_
  exact h h' r1 r2 (fun b o hb z=>r3 b o hb (q3 b o hb z)) t'
end
noncomputable abbrev mkM (ps:List (Str × Value)):Str->Option Value:=ps.foldl (fun mA (p:Str × Value) y=>if y=p.1 then some p.2 else mA y) fun _=>none
noncomputable abbrev ws0 (t:Addr):Array Value:=#[.ref t,.none,.none,.none,.bool false,.none]
theorem u0 {K:PySem.W.Frag} {prog:Program} {w:World} {A:Around} {E:Value->Shared->Prop} {x:Str} {cst:Stmt} {C:Addr} {fs:List Str} {s:Shared} {us:List Value} {Q:Value->Shared->Prop} {k:Nat} (ci:yA K x cst C fs) (X:K.In s.heap) (lim:s.heap.NoLimit) (hr:bT (k+2) A) (hl:us.length=fs.length) (hz:fs.length<=1000)
  (h:∀h' e dx t t',(∀b o,s.heap.get? b=some o->h'.get? b=some o)->s.heap.objs.size<=e->s.heap.objs.size<=dx->dx≠e->h'.get? e=some { cls:=.ref C,dict:=some dx,data:=.fields (ws0 t) }->h'.Ns1 dx (mkM (fs.zip us))->Q (.ref e) { s with heap:=h',toks:=t' }) :
  wpAny (model prog w) A (call (.ref C) us) Q E s:=by
 obtain⟨fI,fd,qual,hex,F,hb,hty⟩:=ci.ex
 obtain⟨bm,N,nm,q',bs,hdct,sn,sub,ab,col,dd,k0,k1,k2,k3,k5,mN,hC,hN,hi,T⟩:=kN X hex
 obtain⟨oc,od,kV,doc,pm,an,cdv,ct,osl,rfl,lk,hcd⟩:=F.ex
 have hfc:oc=.type "function" := by
  have z:(K.lookup fI).map (·.cls)=some (.type "function"):=hty
  rw[lk] at z
  exact Option.some.inj z
 obtain⟨h0,g,d,t,os⟩:=s
 have S:=ci.sc
 have lim2:us.length<=sizeLine:=by rw[sizeLine_eq];omega
 refine qu (Q:=Q) (F:=PySem.F.excBase_ValueError) T hC hN hi (X _ _ lk) hfc (fun h1 e me hee hsz=>?_) lim2
 have X1:K.In h1:=X.keeps me.keeps
 dsimp only at hee hsz
 obtain⟨t0,he,htn,_⟩:=me.there
 have hkind:∀y∈(("self" : Str)::fs).zip (Value.ref e::us),(aj (bz cst)).names.lookup y.1=some .local\/((aj (bz cst)).names.lookup y.1=some .cell/\((cellsFrom (h1.objs.size+1) (aj (bz cst)).names []).lookup y.1).isSome=true):=fun⟨n,v⟩ hy=>.inl (ci.loc n (List.of_mem_zip hy).1)
 have hbb:=hb ⟨h1,g,d,t,os⟩ (Value.ref e::us) X1 (by simp[hl])
 rw[List.append_nil] at hbb
 refine wpAny_call (codeAny_call_function (hr.make C us []).depth (X1 _ _ lk) rfl S.co S.gen rfl (codeRec_of X1 hcd) (hbb _ _ _ _ ?_))
 refine wpAny_newFunctionEnv_cells S.kind hkind fun env henv s1 x1=>?_
 subst henv
 refine⟨(lim.keeps me.keeps).keeps x1.toInCall.keep,codeAny_func ?_⟩
 have ks:∀b o,h1.get? b=some o->s1.heap.get? b=some o:=x1.toInCall.keep
 have X2:K.In s1.heap:=X1.keeps ks
 have he1:=ks _ _ he
 have hL:s1.heap.Ns h1.objs.size (bindL (envOfC qual (aj (bz cst)) h1.objs.size fI cdv).kindOf ((("self" : Str)::fs).zip (Value.ref e::us)) (fun _=>none)):=x1.toInCall.ns
 obtain⟨hp1,tk1,rfl⟩:=x1.toInCall.same
 have kindL:∀y∈("self" : Str)::fs,(envOfC qual (aj (bz cst)) h1.objs.size fI cdv).kindOf y=some .local:=ci.loc
 have hms:bindL (envOfC qual (aj (bz cst)) h1.objs.size fI cdv).kindOf ((("self" : Str)::fs).zip (Value.ref e::us)) (fun _=>none) "self" = some (.ref e):=fQ (i:=0) S.nd rfl rfl (kindL _ (by simp))
 have hmf:∀(i:Nat) (f:Str) (u:Value),fs[i]?=some f->us[i]?=some u->bindL (envOfC qual (aj (bz cst)) h1.objs.size fI cdv).kindOf ((("self" : Str)::fs).zip (Value.ref e::us)) (fun _=>none) f=some u:=fun i f u a b=>
  fQ (i:=i+1) S.nd (by simpa using a) (by simpa using b) (kindL f (by have:=List.mem_of_getElem? a;simp[this]))
 generalize bindL (envOfC qual (aj (bz cst)) h1.objs.size fI cdv).kindOf ((("self" : Str)::fs).zip (Value.ref e::us)) (fun _=>none)=m at hms hmf hL
 have hLe:h1.objs.size≠e:=Nat.ne_of_gt (Heap.lt_size he)
 have hse:h0.objs.size<=e:=by rw[hee];exact Nat.le_succ _
 have ib:=ci.body
 have tkf:=ci.tk
 obtain⟨f,fs,rfl⟩:∃f fs',fs=f::fs':=by
  cases fs with
  | nil=>exact absurd rfl ci.ne
  | cons f r=>exact⟨f,r,rfl⟩
 obtain⟨u,us,rfl⟩:∃u us',us=u::us':=by
  cases us with
  | nil=>cases hl
  | cons u r=>exact⟨u,r,rfl⟩
 generalize bq (bz cst)=body at ib ⊢
 cases ib with
 | cons hdb ib=>
  refine wpAny_execs_cons (plainObj_wpAny_Assign_Attribute ?_ rfl)
  refine gS S.kind (kindL f (by simp)) hL (hmf 0 f u rfl rfl) hdb (gS S.kind (kindL _ (by simp)) hL hms (by decide) ?_)
  refine vZ X2 he1 ci.sa ci.ov (tkf f (by simp)) ci.hd fun h2 q1 q2 q3 t2=>?_
  have hLk:∀o,hp1.get? h1.objs.size=some o->h2.get? h1.objs.size=some o:=fun o z=>q3 _ o hLe z
  have lt1:h1.objs.size<hp1.objs.size:=let ⟨o,_,_,q,_⟩:=hL;Heap.lt_size q
  refine mj (e:=e) S.kind (kindL _ (by simp)) ci.sa ci.ov ci.hd (dx:=hp1.objs.size) hms (Nat.ne_of_gt (Heap.lt_size he1)) hLe (Nat.ne_of_lt lt1) ib (fun y hy=>⟨tkf y (by simp[hy]),kindL y (by simp[hy])⟩) (us:=us) (by simpa using hl) (fun i y v a b=>hmf (i+1) y v a b) (ns:=[f]) (PySem.Within.cons f u PySem.Within.nil) (by simp at hz ⊢;omega) (s:={ heap:=h2,gens:=g,drawn:=d,toks:=t2,os:=os })
   (fun a o z=>q3 a o (fun z2=>?_) (X2 a o z)) (fun a o z=>Nat.ne_of_lt (Heap.lt_size (X2 a o z))) q1 q2 (sG hL hLk) fun h3 r1 r2 r3 t3=>?_
  ·exact absurd (z2 ▸ Heap.lt_size (X a o z):e<h0.objs.size) (Nat.not_lt_of_le hse)
  ·refine⟨rfl,h h3 e hp1.objs.size t0 t3 (fun b o z=>r3 b o (Nat.ne_of_lt (Heap.lt_size (ks _ _ (me.keeps _ _ z)))) (q3 b o ?_ (ks _ _ (me.keeps _ _ z)))) hse ?_ (Nat.ne_of_gt (Heap.lt_size he1)) r1 r2⟩
   ·rintro rfl;have:=me.new;rw[this] at z;cases z
   ·dsimp only;omega
theorem vp (y:Str):∀(ps:List (Str × Value)) (mA:Str->Option Value),(ps.map (·.1)).Nodup->(ps.foldl (fun mA (p:Str × Value) y=>if y=p.1 then some p.2 else mA y) mA) y=(match ps.lookup y with | some v=>some v | none=>mA y)
 | [],mA,_=>rfl
 | (f,v)::r,mA,nd=>by
  rw[List.foldl_cons,vp y r _ (List.nodup_cons.mp nd).2]
  by_cases h:y=f
  ·subst h
   have:r.lookup y=none:=by
    cases q:r.lookup y with
    | none=>rfl
    | some w=>exact absurd (List.mem_map.mpr ⟨_,PySem.mem_of_lookup q,rfl⟩) (List.nodup_cons.mp nd).1
   simp[this,List.lookup]
  ·have hb:(y == f)=false:=by simpa using h
   simp[List.lookup,hb,h]
theorem kh:∀{fs:List Str} {is:List Int} {us:List Value},Vals (is.map V.int) us->∀y,wz (((fs.zip is).map fun x=>(x.1,V.int x.2)).lookup y) ((fs.zip us).lookup y)
 | [],_,_,_,y=>True.intro
 | f::fs,[],us,r,y=>by cases r;exact True.intro
 | f::fs,i::is,_,.cons a r,y=>by
  simp only[List.zip_cons_cons,List.map_cons,List.lookup]
  cases h:y == f with
  | true=>exact a
  | false=>exact kh r y
theorem qP {X:Cx} {E:XK} {pins:List (Addr × Obj)} {σ:St} {H:Hp} {s:Shared} {e dx:Addr} {h':Heap} {C:Value} {oe od:Obj} {ws:Array Value} {fs:List (Str × V)} {t':Nat} (p:Plain X) (fl:h7 X E) (I:Inv X pins σ H s) (k:∀b o,s.heap.get? b=some o->h'.get? b=some o)
  (he:s.heap.objs.size<=e) (hdx:s.heap.objs.size<=dx) (ne:dx≠e) (q1:h'.get? e=some oe) (q2:oe.cls=C) (q3:oe.dict=some dx) (q4:oe.data=.fields ws) (q5:ws[1]?=some .none) (new:br X.prog X.w (upd H dx (.frz od (.xd fs))) h' dx (.frz od (.xd fs)))
  (q:E C (some dx) (upd H dx (.frz od (.xd fs)))):X.xe (.ref e) { s with heap:=h',toks:=t' }:=by
 have I1:Inv X pins σ (upd H dx (.frz od (.xd fs))) { s with heap:=h',toks:=t' }:=I.laid k hdx new
 have fr:=I1.stack
 have nfr:∀b,b∈frs X.stack->upd H dx (.frz od (.xd fs)) b=none:=I1.mH
 have hHe:upd H dx (.frz od (.xd fs)) e=none:=by rw[ay (Ne.symm ne)];exact I.hok.fresh he
 refine fl _ _ ⟨σ,_,PySem.W.hideAll h' (e::frs X.stack),e,C,some dx,rfl,I1.drop,.inl ⟨fun b o z=>PySem.W.of_hideAll _ z,PySem.W.hideAll_none _ List.mem_cons_self,?_,oe,ws,q1,q2,q3,q4,q5⟩,⟨fun b o z=>?_,fun b o e' n hb=>?_⟩,fun p' hp=>?_,q⟩
 ·exact PySem.W.funFrames_hide fr fun env he' b hb=>List.mem_cons_of_mem _ (List.mem_filterMap.mpr ⟨env,he',hb⟩)
 ·obtain⟨u,hu⟩:=zQ (I1.hok b o z)
  refine⟨u,PySem.W.hideAll_get _ hu fun hm=>?_⟩
  rcases List.mem_cons.mp hm with rfl | hm
  ·rw[hHe] at z;cases z
  ·rw[nfr b hm] at z;cases z
 ·have hx:b∉X.ex:=by rw[p.ex];simp
  refine PySem.W.hideAll_get _ (I1.base.keep b o e' n hb hx) fun z=>?_
  rcases List.mem_cons.mp z with rfl | z
  ·exact absurd (Heap.lt_size (I.base.keep b o e' n hb hx)) (Nat.not_lt_of_le he)
  ·rcases List.mem_cons.mp (I.e_ b z) with rfl | z
   ·exact absurd (Heap.lt_size e') (Nat.not_lt_of_le I.ok.above)
   ·exact hb z
 ·obtain⟨r1,r2,r3,r4,r5⟩:=I.pin p' (List.mem_append_left _ hp)
  refine PySem.W.hideAll_get _ (k _ _ r1) fun z=>?_
  rcases List.mem_cons.mp z with z | z
  ·rw[<- z] at he;exact absurd (Heap.lt_size r1) (Nat.not_lt_of_le he)
  ·rcases List.mem_cons.mp (I.e_ _ z) with z | z
   ·exact r3 z
   ·exact r4 z
end L2
namespace L2.FE
open PySem PySem.Spec PyProof.Rows
noncomputable def dW (x:Str) (fs:List Str) (mr:MA):MS:=fun env h=>(mr env h).bind fun ds h1=>match intsOf ds with
 | some is=>if is.length=fs.length then .err ⟨x,fs.zip is⟩ h1 else .bad
 | none=>.bad
section
variable {X:Cx} {g:GG} {E:XK}
theorem oK:∀{fs:List Str} {us:List Value},us.length=fs.length->(fs.zip us).map (·.1)=fs
 | [],_,_=>rfl
 | f::fs,[],h=>by cases h
 | f::fs,u::us,h=>by rw[List.zip_cons_cons,List.map_cons,oK (by simpa using h)]
theorem xh {x:Str} {cst:Stmt} {C:Addr} {fs:List Str} {np cpos pos:Pos} {e:Expr} {es:List Expr} {mr:MA} {k:Nat} (fl:h7 X E) (pl:Plain X) (hc:X.calm=true) (hg:Gl X x) (hm:X.mg x=some (.ref C)) (hgx:g x=some C) (ci:yA X.K x cst C fs) (hr:bT (k+2) X.A) (hz:fs.length<=1000)
  (ha:PA X (e::es) (tMA X.K g (εX g E) mr)) (hdb:(x == ("__debug__" : Str))=false:=by decide) (he:starEach (e::es) X.env=(false,eval e X.env)::starEach es X.env:=by rfl) (hpl:(backTo cpos (starEach es X.env)).any (·.1)=false:=by rfl) :
  PS X (.Raise (some (.Call (.Name x np) (e::es) [] cpos)) none pos) (tMS X.K g (εX g E) (dW x fs mr)):=by
 intro pins s σ H D I ⟨α,env,h,sr,w⟩
 obtain⟨fI,fd,qual,hex,_⟩:=ci.ex
 obtain⟨tl,N,nm,q',bs,hdct,sn,sub,ab,col,dd,k0,k1,k2,k3,k5,mN,hC',hN,hni,T⟩:=kN I.kIn hex
 refine PySem.qc (C:=C) (nm:=nm) (q:=q') (N:=N) (bs:=bs) (bm:=tl) (hdct:=hdct) (sn:=sn) (sub:=sub) (ab:=ab) (col:=col) (dd:=dd) (k0:=k0) (k1:=k1) (k2:=k2) (k3:=k3) (k5:=k5) (newId:="ValueError.__new__") (T.hasType PySem.F.excBase_ValueError.hasBase) (I.ok.hd hc) (by rw[he];show(false || (backTo cpos (starEach es X.env)).any (·.1))=false;rw[hpl];rfl) (fR I hg hm ⟨rfl,?_⟩ hdb)
 have A0:=ha cpos pins s σ H (fun vs H1=>∃is:List Int,vs=is.map V.int/\is.length=fs.length/\∀dx od,H1 dx=none->E (.ref C) (some dx) (upd H1 dx (.frz od (.xd ((fs.zip is).map fun x=>(x.1,V.int x.2)))))) I ⟨α,env,h,sr,w.bind.mono fun ds h1 eq w1 vs H1 α1 e1 hr1 r1=>by
  cases ei:intsOf ds with
  | none=>simp only[ei] at w1;exact w1.elim
  | some is=>
   simp only[ei] at w1
   by_cases hl:is.length=fs.length
   ·rw[if_pos hl] at w1
    have:=eY ei
    subst this
    refine⟨is,r1.uB,hl,fun dx od hn=>?_⟩
    exact w1 α1 _ (e1.trans (Ext.fresh hn)) (hr1.grow hn) C (some dx) hgx (.inr ⟨dx,od,rfl,aJ⟩)
   ·rw[if_neg hl] at w1;exact w1.elim⟩
 rw[he] at A0 ⊢
 refine PySem.Calls.evalArgs_plain (wpAny_mono A0 (fun us s1 ⟨vs,H1,I1,rv,is,ev,hl,fin⟩=>?_) fun _ _ z=>z)
 subst ev
 have hul:us.length=fs.length:=by rw[<- rv.length,List.length_map];exact hl
 obtain⟨tl',N',nm',q'',bs',hdct',sn',sub',ab',col',dd',k0',k1',k2',k3',k5',mN',hC1,_⟩:=kN I1.kIn hex
 have hCC:s1.heap.get? C=some (excClassObj nm q' C N bs tl hdct sn sub ab col dd k0 k1 k2 k3 k5 "ValueError.__new__"):=by
  have a:=I.kIn
  have b:=I1.kIn
  unfold jS at hex
  split at hex
  ·rename_i dd2 cd2 sl2 ho
   have x1:=a _ _ ho
   have x2:=b _ _ ho
   rw[x2,<- x1];exact hC'
  ·cases hex
 refine⟨rfl,hCC,?_⟩
 have limS:s1.heap.NoLimit:=I1.nolimit
 refine u0 ci I1.kIn limS hr hul hz fun h' e' dx t t' kp he' hdx' ne' q1 q2=>?_
 refine⟨kp _ _ hCC,e',_,rfl,q1,rfl,⟨_,rfl,rfl⟩,?_⟩
 obtain⟨od,es',ep',ho',_⟩:=id q2
 refine qP (C:=.ref C) (od:=od) (fs:=(fs.zip is).map fun x=>(x.1,V.int x.2)) pl fl I1 kp he' hdx' ne' q1 rfl rfl rfl rfl ⟨ho',_,q2,fun y=>?_⟩ (fin dx od (I1.hok.fresh hdx'))
 have nd:((fs.zip us).map (·.1)).Nodup:=by rw[oK hul];exact(List.nodup_cons.mp ci.sc.nd).2
 show wz _ (mkM (fs.zip us) y)
 rw[show mkM (fs.zip us) y=_ from vp y _ _ nd]
 have:=kh (fs:=fs) rv y
 cases q:(fs.zip us).lookup y with
 | none=>rw[q] at this;exact this
 | some v=>rw[q] at this;exact this
end
end L2.FE
namespace PySem.W
open PySem PySem.Calls PyProof.Rows PySem.Spec Builtin Builtin.ObjectAttr
theorem lJ:∀(n:Nat) {l:List Value},l.length<=n->i9 l=true->l.contains (.type "BaseException")=true
 | 0,l,hl,e=>by
  have:l=[]:=List.eq_nil_of_length_eq_zero (by omega)
  subst this;cases e
 | n+1,l,hl,e=>by
  rcases fB e with rfl | ⟨c,r,rfl,e'⟩
  ·simp
  ·rw[List.contains_cons,lJ n (by simp at hl;omega) e',Bool.or_true]
section
variable {K:Frag} {prog:Program} {w:World} {A:Around} {E:Value->Shared->Prop} {s:Shared} {x C dx:Addr} {ox:Obj} {mA:Str->Option Value} {name:Str} {v:Value}
theorem tX {tk:Tok} {Q:Fin->Shared->Prop} (X:K.In s.heap) (hx:s.heap.get? x=some ox) (hc:ox.cls=.ref C) (hf:∃ws,ox.data=.fields ws) (hd:ox.dict=some dx) (hn:s.heap.Ns dx mA) (hv:mA name=some v)
  (hna:findIn K (.ref C) name=some none) (hh:hasDictIn K C=true) (h:Q (.done (.ret v)) s):wpAny (model prog w) A (Builtin.«object.__getattribute__» ⟨[.ref x,.str name tk],[]⟩) Q E s:=by
 obtain⟨cd,hcd,hd'⟩:=any_some hh
 obtain⟨oc,od,oda,osl⟩:=ox
 obtain⟨ws,hf⟩:=hf
 dsimp only at hc hd hf
 subst hc hd hf
 have I:InstAt s.heap x ⟨.ref C,some dx,.fields ws,osl⟩ C (some hn.choose):=⟨hx,rfl,rfl,hn.choose_spec.choose_spec.choose_spec.1⟩
 have e:Builtin.«object.__getattribute__» ⟨[.ref x,.str name tk],[]⟩=(typeOf (.ref x) >>= fun tp=>find (.ref x) tp name >>= fun f=>match f with
   | .value v=>(ret v:Sem Fin)
   | .bind g a=>bindTo g a (.ref x) tp
   | .missing=>do
    if tp == .type "module" then
     if ← isOpaqueModuleObj (.ref x) then
      let byTheModulesOwnEntry:=match (← stack).drop 1 with
       | (.builtin "module.__getattribute__" ⟨m::_,_⟩,_)::_=>m == .ref x
       | _=>false
      if !byTheModulesOwnEntry then unsupported "thirdparty:object.__getattribute__:a-miss-on-an-opaque-module"
    if tp == .type "type" then
     if let some key ← opaqueClassAbove (.ref x) then unsupported s!"thirdparty:{key.toString}.{name.toString}:object.__getattribute__-misses-on-an-opaque-class"
    noSuchAttribute (.ref x) name):=by rfl
 rw[e]
 refine wpAny_bind (I.type.here ?_)
 refine wpAny_bind ?_
 unfold find
 refine wpAny_bind ((looks_findIn X hna).here ?_)
 refine wpAny_bind (wpAny_pure (wpAny_bind (wpAny_pure ?_)))
 show wpAny _ _ (ownThenClass (.ref x) name none none) _ _ _
 unfold ownThenClass inOwnDict
 refine wpAny_bind (wpAny_bind ?_)
 show wpAny _ _ (loadPart x (some headPart) >>= _) _ _ _
 refine wpAny_bind (wpAny_loadPart hx ?_)
 show wpAny _ _ (instanceDict x false) _ _ _
 unfold instanceDict
 refine wpAny_bind (wpAny_loadPart hx ?_)
 refine wpAny_bind ?_
 refine(looks_clsIn X hcd).here ?_
 rw[hd']
 refine wpAny_pure (a:=some dx) ?_
 show wpAny _ _ (nsGet dx name) _ _ _
 refine wpAny_nsGet hn ?_
 rw[hv]
 refine wpAny_bind (wpAny_rule (wpAny_pure ?_))
 exact wpAny_pure h
theorem yj {b:Bool} {Q:Value->Shared->Prop} (X:K.In s.heap) (hx:s.heap.get? x=some ox) (hc:ox.cls=.ref C) (hf:∃ws,ox.data=.fields ws) (hd:ox.dict=some dx) (hn:s.heap.Ns dx mA) (hv:mA name=some v)
  (hga:findIn K (.ref C) "__getattribute__" = some (some (.builtin "BaseException.__getattribute__"))) (hgh:findIn K (.ref C) "__getattr__" = some none) (hna:findIn K (.ref C) name=some none) (ov:dS K C=true) (hh:hasDictIn K C=true) (hv2:handedOut v=pure v)
  (h:Q v { s with toks:=s.toks+1 }):wpAny (model prog w) A (getAttr (.ref x) name b) Q E s:=by
 have FB:=PySem.F.attrBase_ValueError
 have I:InstAt s.heap x ox C (some hn.choose):=⟨hx,hc,by obtain⟨ws,e⟩:=hf;unfold notCls;rw[e],by rw[hd];exact hn.choose_spec.choose_spec.choose_spec.1⟩
 obtain⟨cd,hcd,ho⟩:=any_some ov
 have ne:cd.mro.isEmpty=false:=by cases q:cd.mro with | nil=>rw[q] at ho;cases ho | cons _ _=>rfl
 have sub:Looks (model prog w) s.heap (isInstance (.ref x) (.type "BaseException")) true:=I.type.andThen (looks_mroIn X (by unfold mroIn;rw[hcd,Option.bind_some,if_neg (by rw[ne];decide),lJ _ (Nat.le_refl _) ho]))
 unfold getAttr getAttrBy
 refine wpAny_bind (wpAny_mkText (wpAny_holding (wpAny_bind (Looks.here (s:={ s with toks:=s.toks+1 }) I.type (wpAny_bind (Looks.here (s:={ s with toks:=s.toks+1 }) (looks_findIn X hga) ?_))))))
 dsimp only
 have hx2:(Value.builtin "BaseException.__getattribute__" == Value.builtin "object.__getattribute__")=false:=by decide +kernel
 rw[if_neg (by rw[hx2,Bool.and_false];decide)]
 unfold getAttrByItsOwn
 refine wpAny_bind ?_
 show wpAny _ _ (typeLookup (.ref C) "__getattr__") _ _ _
 refine Looks.here (s:={ s with toks:=s.toks+1 }) (looks_findIn X hgh) ?_
 refine wpAny_bind (wpAny_attempt (wpAny_holding ?_))
 have hcall:callGetattribute (.ref x) (.str name s.toks) (.builtin "BaseException.__getattribute__") b=boundAndCalled (.builtin "BaseException.__getattribute__") (.ref x) (.str name s.toks):=by cases b<;>rfl
 rw[hcall]
 unfold boundAndCalled
 refine wpAny_bind ?_
 rw[FB.ga.bind (.ref x)]
 refine wpAny_pure ?_
 have hk:builtinKind "BaseException.__getattribute__" = some .slot:=by decide +kernel
 have hsplit:splitId "BaseException.__getattribute__" = some ("BaseException", "__getattribute__"):=by decide +kernel
 refine wpAny_call (codeAny_call_builtin FB.ga.plain PySem.F.entry_bexc_ga (@check_slot (model prog w) _ _ { s with toks:=s.toks+1 } "BaseException.__getattribute__" "BaseException" "__getattribute__" (.ref x) [.str name s.toks] [] _ hk hsplit sub (PySem.F.args_bexc_ga (.ref x) (.str name s.toks)) ?_))
 refine tX (s:={ s with toks:=s.toks+1 }) X hx hc hf hd hn hv hna hh ?_
 show wpAny _ _ (handedOut v) _ _ _
 rw[hv2]
 exact wpAny_pure h
end
end PySem.W
namespace L2
open PySem PySem.Spec PyProof.Rows PySem.W
structure BB (K:PySem.W.Frag) (C:Addr) (f:Str):Prop where
 ga:findIn K (.ref C) "__getattribute__" = some (some (.builtin "BaseException.__getattribute__"))
 gh:findIn K (.ref C) "__getattr__" = some none
 na:findIn K (.ref C) f=some none
 ov:dS K C=true
 hd:hasDictIn K C=true
end L2
namespace L2.FE
open PySem PySem.Spec PyProof.Rows
noncomputable def yr (c f:Str):D->Hh->R D:=fun d h=>match d with
 | .exc c' fs=>if c'=c then (match fs.lookup f with | some i=>.ok (.int i) h | none=>.bad) else .bad
 | _=>.bad
theorem iY:∀{fs:List (Str × Int)} {f:Str} {i:Int},fs.lookup f=some i->(fs.map fun x=>(x.1,V.int x.2)).lookup f=some (.int i)
 | [],f,i,h=>by cases h
 | (y,j)::fs,f,i,h=>by
  simp only[List.map_cons,List.lookup] at h ⊢
  cases q:f == y with
  | true=>rw[q] at h;cases h;rfl
  | false=>rw[q] at h;exact iY h
section
variable {X:Cx} {g:GG} {ε:EE}
theorem A5 {e:Expr} {c f:Str} {C:Addr} {pos:Pos} {m:ME} (he:PE X e (tM X.K g ε m)) (hgc:g c=some C) (cr:BB X.K C f) (hb:attributeBase e f X.env (eval e X.env)=eval e X.env:=by rfl):PE X (.Attribute e f pos) (tM X.K g ε (cUn (yr c f) m)):=by
 intro pins s σ H Q I ⟨α,env,h,sr,w⟩
 have A0:=he pins s σ H (fun v H1=>∃(p dx:Addr) (o od:Obj) (i:Int) (fs:List (Str × Int)),v=.ref p/\H1 p=some (AtO p o)/\o.cls=.ref C/\(∃vs,o.data=.fields vs)/\o.dict=some dx/\H1 dx=some (.frz od (.xd (fs.map fun x=>(x.1,V.int x.2))))/\fs.lookup f=some i/\Q (.int i) H1) I ⟨α,env,h,sr,w.bind.mono fun d h1 eq w1 v H1 α1 e1 hr1 r1=>by
  unfold yr at w1
  cases r1 with
  | exc hg hp hcl hda hfs=>
   rename_i c' C' p o fs
   dsimp only at w1
   by_cases hc:c'=c
   ·rw[if_pos hc] at w1
    subst hc
    rw[hgc] at hg;cases hg
    cases el:fs.lookup f with
    | none=>rw[el] at w1;exact w1.elim
    | some i=>
     rw[el] at w1
     rcases hfs with⟨_,rfl⟩ | ⟨dx,od,hd1,hd2⟩
     ·cases el
     ·exact⟨p,dx,o,od,i,fs,rfl,hp,hcl,hda,hd1,hd2,el,w1 (.int i) H1 α1 e1 hr1 (.int i)⟩
   ·rw[if_neg hc] at w1;exact w1.elim
  | _=>exact w1.elim⟩
 refine yF hb (thn A0 fun u s1 ⟨v,H1,I1,rv,p,dx,o,od,i,fs,ev,hp,hcl,hda,hd1,hd2,el,q⟩=>?_)
 subst ev
 obtain rfl:u=Value.ref p:=rv
 obtain⟨ho,_⟩:=I1.hok p _ hp
 obtain⟨hod,mA,hns,rel⟩:=I1.hok dx _ hd2
 have rl:=rel f
 rw[iY el] at rl
 cases em:mA f with
 | none=>rw[em] at rl;exact rl.elim
 | some u=>
  rw[em] at rl
  obtain⟨t,rfl⟩:=rl
  exact PySem.W.yj I1.kIn ho hcl hda hd1 hns.ns em cr.ga cr.gh cr.na cr.ov cr.hd rfl ⟨.int i,H1,I1.tok _,⟨t,rfl⟩,q⟩
end
end L2.FE
namespace L2
open PySem PySem.Spec PyProof.Rows PySem.W
noncomputable def CIs (K:PySem.W.Frag) (x:Str) (cst:Stmt) (fs:List Str):Prop:=∃C,nsIn K mainGlobals x=some (some (.ref C))/\yA K x cst C fs/\∀f∈fs,BB K C f
noncomputable def BW (K:PySem.W.Frag) (C fI:Addr) (fs:List Str):Bool:=jS K C fI&&typeIn K (.ref fI) == some (.type "function")&&findIn K (.ref C) "__setattr__" == some (some (.builtin "object.__setattr__"))&&dS K C&&hasDictIn K C&&
 findIn K (.ref C) "__getattribute__" == some (some (.builtin "BaseException.__getattribute__"))&&findIn K (.ref C) "__getattr__" == some none&&fs.all fun f=>takerIn K C f == some none&&findIn K (.ref C) f == some none
noncomputable def CIm (K:PySem.W.Frag) (mg:Str->Option Value) (x:Str) (cst:Stmt) (fs:List Str):Prop:=∃C,mg x=some (.ref C)/\yA K x cst C fs/\∀f∈fs,BB K C f
theorem CIm.of {K:PySem.W.Frag} {h:Heap} {mg:Str->Option Value} {x:Str} {cst:Stmt} {fs:List Str} (X:K.In h) (G:h.Ns mainGlobals mg) (c:CIs K x cst fs):CIm K mg x cst fs:=
 let ⟨C,a,b,d⟩:=c;⟨C,mg_of X G a,b,d⟩
end L2
namespace L2.FE
open PySem PySem.Spec PyProof.Rows
section
variable {X:Cx} {g:GG} {E:XK}
theorem pf {x:Str} {cst:Stmt} {fs:List Str} {np cpos pos:Pos} {e:Expr} {es:List Expr} {mr:MA} {k:Nat} (fl:h7 X E) (pl:Plain X) (hc:X.calm=true) (hg:Gl X x) (cm:CIm X.K X.mg x cst fs) (hgo:g=gOf X.mg) (hr:bT (k+2) X.A) (hz:fs.length<=1000)
  (ha:PA X (e::es) (tMA X.K g (εX g E) mr)) (hdb:(x == ("__debug__" : Str))=false:=by decide) (he:starEach (e::es) X.env=(false,eval e X.env)::starEach es X.env:=by rfl) (hpl:(backTo cpos (starEach es X.env)).any (·.1)=false:=by rfl) :
  PS X (.Raise (some (.Call (.Name x np) (e::es) [] cpos)) none pos) (tMS X.K g (εX g E) (dW x fs mr)):=by
 obtain⟨C,hm,ci,_⟩:=cm
 exact xh fl pl hc hg hm (by rw[hgo];unfold gOf;rw[hm]) ci hr hz ha hdb he hpl
theorem xB {ε:EE} {e:Expr} {c f:Str} {cst:Stmt} {fs:List Str} {pos:Pos} {m:ME} (he:PE X e (tM X.K g ε m)) (cm:CIm X.K X.mg c cst fs) (hgo:g=gOf X.mg) (hf:f∈fs) (hb:attributeBase e f X.env (eval e X.env)=eval e X.env:=by rfl):PE X (.Attribute e f pos) (tM X.K g ε (cUn (yr c f) m)):=by
 obtain⟨C,hm,_,cr⟩:=cm
 exact A5 he (by rw[hgo];unfold gOf;rw[hm]) (cr f hf) hb
end
end L2.FE
namespace L2
open PySem PySem.Spec PyProof.Rows PySem.W
theorem yt {K:PySem.W.Frag} {x qual:Str} {cst:Stmt} {C fI:Addr} {fs:List Str} {oc:Value} {od an:Option Addr} {osl:Array (Option Value)} {kV doc pm cdv ct:Value} (a:nsIn K mainGlobals x=some (some (.ref C))) (_b:findIn K (.ref C) "__init__" = some (some (.ref fI)))
  (l:K.lookup fI=some ⟨oc,od,.func (fnOf "__init__" qual (dU (bz cst)) (bq (bz cst)) (aj (bz cst)) .none kV doc pm an cdv ct),osl⟩) (c:codeIn K cdv qual=true) (k:keepIn K (.ref fI)=true) (o:BW K C fI fs=true)
  (sc:aP ("self" :: fs) ("self" :: fs) (aj (bz cst))) (loc:∀y∈("self" : Str)::fs,(aj (bz cst)).names.lookup y=some .local) (body:je (bq (bz cst)) fs)
  (bd:∀(kV doc pm:Value) (an:Option Addr) (cdv ct:Value) (us:List Value),us.length=(("self" : Str)::fs).length->bindArgs (fnOf "__init__" qual (dU (bz cst)) (bq (bz cst)) (aj (bz cst)) .none kV doc pm an cdv ct) ⟨us,[]⟩=pure ((("self" : Str)::fs).zip us)) (ne:fs≠[]):CIs K x cst fs:=by
 unfold BW at o
 simp only[Bool.and_eq_true,beq_iff_eq,List.all_eq_true] at o
 obtain⟨⟨⟨⟨⟨⟨⟨o1,o2⟩,o3⟩,o4⟩,o5⟩,o6⟩,o7⟩,o8⟩:=o
 have F:Fun K "__init__" qual (bz cst) fI _:=vD l c k
 exact⟨C,a,⟨⟨fI,_,qual,o1,F,F.binds bd,o2⟩,sc,loc,body,o3,o4,fun f hf=>(o8 f hf).1,o5,ne⟩,fun f hf=>⟨o6,o7,(o8 f hf).2,o4,o5⟩⟩
end L2
namespace L2
open PySem PySem.Spec PyProof.Rows
inductive RdM (K:PySem.W.Frag) (H:Hp):V->PyData->Prop
 | non:RdM K H .non .none
 | bl (b:Bool):RdM K H (.bl b) (.bool b)
 | int (i:Int):RdM K H (.int i) (.int i)
 | str (x:Str):RdM K H (.str x) (.str x)
 | tup {a:Addr} {xs:List V} {ds:List PyData} (h:SqT K H a xs) (hl:xs.length=ds.length) (hx:∀(i:Nat) x d,xs[i]?=some x->ds[i]?=some d->RdM K H x d):RdM K H (.ref a) (.tuple ds)
 | lst {a:Addr} {xs:List V} {ds:List PyData} (h:SqL K H a xs) (hl:xs.length=ds.length) (hx:∀(i:Nat) x d,xs[i]?=some x->ds[i]?=some d->RdM K H x d):RdM K H (.ref a) (.list ds)
 | edic {a:Addr} {o:Obj} (h:H a=some (.frz o (.dK []))):RdM K H (.ref a) (.dict [])
noncomputable def RK (P:Program) (w:World) (h:Heap) (u:Value) (d:PyData):Prop:=∃as,Reads h u d as/\(d.showable=true->d.shown.length<=sizeLine->∃bs,ReadAtMost h d.depth bs/\ReprK P w bs h d.depth u d.shown)
theorem RK.of {P:Program} {w:World} {h:Heap} {u:Value} {d:PyData} {as:List Addr} (r:Reads h u d as) (n:sysModules∉as):RK P w h u d:=⟨as,r,fun hs hz=>ReprK.of_reads r hs (fun _=>n) hz⟩
theorem n8 {P:Program} {w:World} {h:Heap}:∀{us:List Value} {ds:List PyData},us.length=ds.length->(∀(i:Nat) u d,us[i]?=some u->ds[i]?=some d->RK P w h u d) →
  ∃as,ReadsAll h us ds as/\(PyData.showableAll ds=true->(∀t∈PyData.shownAll ds,t.length<=sizeLine)->∃bs,ReadAtMost h (PyData.depthAll ds) bs/\ReprAllK P w bs h (PyData.depthAll ds) us (PyData.shownAll ds))
 | [],[],_,_=>⟨_,.nil,fun _ _=>⟨[],(fun _ z=>nomatch z),by rw[PyData.shownAll];exact .nil⟩⟩
 | [],_::_,hl,_=>by simp at hl
 | _::_,[],hl,_=>by simp at hl
 | u::us,d::ds,hl,hx=>by
  obtain⟨as,r1,k1⟩:=hx 0 u d rfl rfl
  obtain⟨bs,r2,k2⟩:=n8 (P:=P) (w:=w) (us:=us) (ds:=ds) (by simpa using hl) fun i u d e1 e2=>hx (i+1) u d (by simpa using e1) (by simpa using e2)
  refine⟨_,.cons r1 r2,fun hs hz=>?_⟩
  rw[PyData.showableAll,Bool.and_eq_true] at hs
  rw[PyData.shownAll] at hz ⊢
  rw[PyData.depthAll]
  obtain⟨b1,m1,q1⟩:=k1 hs.1 (hz _ List.mem_cons_self)
  obtain⟨b2,m2,q2⟩:=k2 hs.2 fun t ht=>hz t (List.mem_cons_of_mem _ ht)
  exact⟨b1++b2,(m1.mono (Nat.le_max_left _ _)).append (m2.mono (Nat.le_max_right _ _)),.cons ((q1.more fun b hb=>List.mem_append_left _ hb).level_le (Nat.le_max_left _ _)) (q2.more_le (fun b hb=>List.mem_append_right _ hb) (Nat.le_max_right _ _))⟩
section
variable {X:Cx}
theorem Inv.Az {pins:List (Addr × Obj)} {σ:St} {H:Hp} {s:Shared} (I:Inv X pins σ H s) {x:V} {d:PyData} (r:RdM X.K H x d):∀u,RelV x u->RK X.prog X.w s.heap u d:=by
 induction r with
 | non=>intro u ru;cases (show u=Value.none from ru);exact .of .none (by simp)
 | bl b=>intro u ru;cases (show u=Value.bool b from ru);exact .of (.bool b) (by simp)
 | int i=>intro u ru;obtain⟨t,q⟩:=(show ∃t,u=Value.int i t from ru);cases q;exact .of (.int i t) (by simp)
 | str y=>intro u ru;obtain⟨t,q⟩:=(show ∃t,u=Value.str y t from ru);cases q;exact .of (.str y t) (by simp)
 | @tup a xs ds h hl hx ih=>
  intro u ru
  cases (show u=Value.ref a from ru)
  obtain⟨its,rv,p,hz⟩:=I.tuple h
  obtain⟨o,ho,hc,n,hd⟩:=p
  obtain⟨as,ra,k⟩:=n8 (P:=X.prog) (w:=X.w) (h:=s.heap) (us:=its) (ds:=ds) (by rw[<- rv.length,hl]) fun i u d e1 e2=>by
   obtain⟨y,e3,ry⟩:=rv.get' e1
   exact ih i y d e3 e2 u ry
  have rr:Reads s.heap (.ref a) (.tuple ds) as:=.tuple ho hc hd (by simpa using ra)
  refine⟨_,rr,fun hs hz=>?_⟩
  rw[PyData.shown] at hz ⊢
  obtain⟨bs,hb,hk⟩:=k (by rw[PyData.showable] at hs;exact hs) fun t ht=>Nat.le_trans (tupleText_mem_le ht) hz
  have hna:=not_mem_of_deeper rr (by rw[PyData.depth];omega) hb
  refine⟨a::bs,ReadAtMost.cons rr (by rw[PyData.depth];omega) hb,?_⟩
  rw[PyData.depth]
  exact ReprK.tuple ho hc hd hna (by simpa using hk)
 | @lst a xs ds h hl hx ih=>
  intro u ru
  cases (show u=Value.ref a from ru)
  obtain⟨its,rv,p,hz⟩:=I.list h
  obtain⟨o,ho,hc,n,hd⟩:=p.isList
  obtain⟨as,ra,k⟩:=n8 (P:=X.prog) (w:=X.w) (h:=s.heap) (us:=its) (ds:=ds) (by rw[<- rv.length,hl]) fun i u d e1 e2=>by
   obtain⟨y,e3,ry⟩:=rv.get' e1
   exact ih i y d e3 e2 u ry
  have rr:Reads s.heap (.ref a) (.list ds) _:=.list ho hc hd (by simpa using ra)
  refine⟨_,rr,fun hs hz=>?_⟩
  rw[PyData.shown] at hz ⊢
  obtain⟨bs,hb,hk⟩:=k (by rw[PyData.showable] at hs;exact hs) fun t ht=>Nat.le_trans (listText_mem_le ht) hz
  have hna:=not_mem_of_deeper rr (by rw[PyData.depth];omega) hb
  refine⟨a::bs,ReadAtMost.cons rr (by rw[PyData.depth];omega) hb,?_⟩
  rw[PyData.depth]
  cases its with
  | nil=>
   cases ra
   rw[PyData.shownAll,listText_nil]
   exact ReprK.listEmpty ho hc hd
  | cons x l=>exact ReprK.list ho hc hd hna (by simpa using hk.length_eq) fun i y e=>hk.item i y (by simpa using e)
 | @edic a o h=>
  intro u ru
  obtain⟨as,r,n⟩:=I.wd (.edic h) u ru
  exact .of r n
theorem qC (hg:X.A.guards=some []) (hu:X.A.units+64<cLine):aR X (.builtin "repr") (fun vs H Q=>∃p xs d ds,vs=[.ref p]/\SqL X.K H p xs/\xs.length=(d::ds).length/\(∀(i:Nat) x e,xs[i]?=some x->(d::ds)[i]?=some e->RdM X.K H x e)/\PyData.showableAll (d::ds)=true/\PyData.depthAll (d::ds)<=60/\(PyData.list (d::ds)).shown.length<=sizeLine/\Q (.str (PyData.list (d::ds)).shown) H):=by
 intro pins s σ H xs us Q I r h
 obtain⟨a,xs,d,ds,rfl,sq,hl,hx,hs,hdp,hz,q⟩:=h
 obtain⟨u,rfl,rx⟩:=vals1 r
 cases rx
 obtain⟨its,rv,p,hz0⟩:=I.list sq
 obtain⟨o,ho,hc,n,hd⟩:=p.isList
 obtain⟨as,ra,k⟩:=n8 (P:=X.prog) (w:=X.w) (h:=s.heap) (us:=its) (ds:=d::ds) (by rw[<- rv.length,hl]) fun i u d e1 e2=>by
  obtain⟨y,e3,ry⟩:=rv.get' e1
  exact I.Az (hx i y d e3 e2) u ry
 have rr:Reads s.heap (.ref a) (.list (d::ds)) _:=.list ho hc hd (by simpa using ra)
 rw[PyData.shown] at hz q
 obtain⟨bs,hb,hk⟩:=k hs fun t ht=>Nat.le_trans (listText_mem_le ht) hz
 have hna:=not_mem_of_deeper rr (by rw[PyData.depth];omega) hb
 cases its with
 | nil=>cases ra
 | cons y l=>
  exact call_repr_slot (by omega) ⟨o,ho,hc⟩ PySem.F.slot_list_repr.toG (call_list_reprK ho hc hd hna (by simpa using hk.length_eq) (fun i y e=>hk.item i y (by simpa using e)) hg (fun b _=>Clear.nil b) (by show X.A.units+1+(PyData.depthAll (d::ds)+1)<cLine;omega) (fun _ _ e=>e) (fun h' u tk kp=>⟨_,_,rfl,⟨.str _,H,I.kept kp,⟨_,rfl⟩,q⟩⟩) hz)
end
end L2
namespace L2.FE
open PySem PySem.Spec PyProof.Rows
noncomputable def i_:Nat->D->Option PyData
 | 0,_=>none
 | k+1,d=>match d with
  | .non=>some .none
  | .bl b=>some (.bool b)
  | .int i=>if sml i=true then some (.int i) else none
  | .str x=>if x.cps.toList.all (fun c=>decide (c<16 ^ 8))=true then some (.str x) else none
  | .tup ds=>(bj (i_ k) ds).map .tuple
  | .frl ds=>(bj (i_ k) ds).map .list
  | .edic=>some (.dict [])
  | _=>none
section
variable {K:PySem.W.Frag} {g:GG} {α:List Addr} {H:Hp} {h:Hh} {X:Cx} {ε:EE}
theorem fS {f:D->Option PyData} {k:Nat} (hf:∀d x p,aC K g α H d x->f d=some p->RdM K H x p/\sC k p):∀{ds:List D} {vs:List V} {ps:List PyData},ao K g α H ds vs->bj f ds=some ps →
  vh k ps/\vs.length=ps.length/\∀(i:Nat) x d,vs[i]?=some x->ps[i]?=some d->RdM K H x d
 | _,_,_,.nil,e=>by
  cases e
  exact⟨⟨by simp[PyData.showableAll],by simp[PyData.depthAll],by simp[PyData.leavesShortAll]⟩,rfl,fun i x d h=>by simp at h⟩
 | _,_,_,.cons r t,e=>by
  unfold bj at e
  split at e
  ·rename_i p ps h1 h2
   cases e
   obtain⟨a1,a2⟩:=hf _ _ _ r h1
   obtain⟨b1,b2,b3⟩:=fS hf t h2
   refine⟨⟨by rw[PyData.showableAll,a2.sh,b1.sh];rfl,by rw[PyData.depthAll];exact Nat.max_le.mpr ⟨a2.dp,b1.dp⟩,by rw[PyData.leavesShortAll,a2.lv,b1.lv];rfl⟩,by simp[b2],fun i x d hx hd=>?_⟩
   cases i with
   | zero=>simp at hx hd;subst hx hd;exact a1
   | succ i=>exact b3 i x d (by simpa using hx) (by simpa using hd)
  ·cases e
theorem ka:∀(k:Nat) (d:D) (x:V) (p:PyData),aC K g α H d x->i_ k d=some p->RdM K H x p/\sC k p
 | 0,_,_,_,_,e=>by cases e
 | k+1,d,x,p,rd,e=>by
  unfold i_ at e
  cases rd with
  | non=>cases e;exact⟨.non,by simp[PyData.showable],by simp[PyData.depth],by simp[PyData.leavesShort]⟩
  | bl b=>cases e;exact⟨.bl b,by simp[PyData.showable],by simp[PyData.depth],by simp[PyData.leavesShort]⟩
  | int i=>
   simp only at e
   split at e
   ·rename_i hs
    cases e
    have hl:i.natAbs.log2<1920:=Nat.lt_trans (fV hs) (by decide)
    exact⟨.int i,by simp[PyData.showable,hl],by simp[PyData.depth],by simp only[PyData.leavesShort,decide_eq_true_eq];exact int_text_len_1921 hl⟩
   ·cases e
  | str z=>
   simp only at e
   split at e
   ·rename_i hs
    cases e
    exact⟨.str z,by simp[PyData.showable],by simp[PyData.depth],by simpa only[PyData.leavesShort] using hs⟩
   ·cases e
  | edic hp=>cases e;exact⟨.edic hp,by simp[PyData.showable,PyData.showableKv],by simp[PyData.depth,PyData.depthKv],by simp[PyData.leavesShort,PyData.leavesShortKv]⟩
  | tup hp rs=>
   simp only at e
   cases e1:bj (i_ k) _ with
   | none=>rw[e1] at e;cases e
   | some ps=>
    rw[e1] at e
    cases e
    obtain⟨b1,b2,b3⟩:=fS (fun d x p=>ka k d x p) rs e1
    exact⟨.tup (SqT.of hp) b2 b3,by rw[PyData.showable];exact b1.sh,by rw[PyData.depth];exact Nat.succ_le_succ b1.dp,by rw[PyData.leavesShort];exact b1.lv⟩
  | frl hp rs=>
   simp only at e
   cases e1:bj (i_ k) _ with
   | none=>rw[e1] at e;cases e
   | some ps=>
    rw[e1] at e
    cases e
    obtain⟨b1,b2,b3⟩:=fS (fun d x p=>ka k d x p) rs e1
    exact⟨.lst hp.sq b2 b3,by rw[PyData.showable];exact b1.sh,by rw[PyData.depth];exact Nat.succ_le_succ b1.dp,by rw[PyData.leavesShort];exact b1.lv⟩
  | _=>cases e
noncomputable def qp:List D->Hh->R D:=fun ds h=>match ds with
 | [.frl ds]=>(match bj (i_ 12) ds with
  | some (p::ps)=>if PyData.bulk (.list (p::ps))<=8000 then .ok (.str (PyData.list (p::ps)).shown) h else .bad
  | _=>.bad)
 | _=>.bad
noncomputable abbrev m3 (K:PySem.W.Frag):List V->Hp->VK->Prop:=fun vs H Q=>∃p xs d ds,vs=[.ref p]/\SqL K H p xs/\xs.length=(d::ds).length/\(∀(i:Nat) x e,xs[i]?=some x->(d::ds)[i]?=some e->RdM K H x e)/\PyData.showableAll (d::ds)=true/\PyData.depthAll (d::ds)<=60/\(PyData.list (d::ds)).shown.length<=sizeLine/\Q (.str (PyData.list (d::ds)).shown) H
theorem pK:g6 K g ε qp (m3 K):=by
 intro α H h a x Q r ra w
 unfold qp at w
 cases ra with
 | nil=>exact w.elim
 | cons rd rr=>
  cases rr with
  | cons _ _=>cases rd<;>exact w.elim
  | nil=>
   cases rd with
   | frl hp rs=>
    dsimp only at w
    cases e1:bj (i_ 12) _ with
    | none=>rw[e1] at w;exact w.elim
    | some l=>
     rw[e1] at w
     cases l with
     | nil=>exact w.elim
     | cons p ps=>
      obtain⟨hb,w⟩:=WQ.bI w
      obtain⟨b1,b2,b3⟩:=fS (fun d x p=>ka 12 d x p) rs e1
      have:=PyData.shown_le_bulk 1921 (by decide) (PyData.list (p::ps)) (by rw[PyData.leavesShort];exact b1.lv)
      exact⟨_,_,p,ps,rfl,hp.sq,b2,b3,b1.sh,Nat.le_trans b1.dp (by decide),by rw[sizeLine_eq];omega,aB.now w r (.str _)⟩
   | _=>exact w.elim
end
end L2.FE
namespace L2.Srt
open PySem PySem.W PyProof.Rows
section
variable {n:Nat} {key:Nat->Int}
structure Pm (n:Nat) (p:Array Nat):Prop where
 size:p.size=n
 perm:p.Perm (List.range n).toArray
theorem Pm.lt {p:Array Nat} (h:Pm n p) {i:Nat} (hi:i<n):p.getD i 0<n:=by
 have hi':i<p.size:=by rw[h.size];exact hi
 have e:p.getD i 0=p[i]:=by simp[Array.getD,hi']
 rw[e]
 have:=h.perm.mem_iff.mp (Array.getElem_mem hi')
 simpa using this
variable (inj:∀i j,i<n->j<n->key i=key j->i=j)
include inj
omit inj in
omit inj in
omit inj in
omit inj in
omit inj in
omit inj in
end
end L2.Srt
namespace L2.Srt
open PySem PySem.W PyProof.Rows PySem.Calls
section
variable {prog:Program} {w:World} {A:Around} {E:Value->Shared->Prop} {s:Shared} {vs:List Value}
inductive Prs (h:Heap):List Value->List (Int × Int)->Prop
 | nil:Prs h [] []
 | cons {a:Addr} {o:Obj} {k:Nat} {t u:Tok} {x y:Int} {vs:List Value} {ps:List (Int × Int)}:h.get? a=some o->o.cls=.type "tuple" -> o.data=.seq #[.int x t,.int y u] k->Prs h vs ps->Prs h (.ref a::vs) ((x,y)::ps)
theorem Prs.len {h:Heap} {vs:List Value} {ps:List (Int × Int)} (r:Prs h vs ps):vs.length=ps.length:=by
 induction r with
 | nil=>rfl
 | cons _ _ _ _ ih=>simp[ih]
theorem Prs.at_ {h:Heap} {vs:List Value} {ps:List (Int × Int)} (r:Prs h vs ps):∀{i:Nat},i<ps.length->∃a o k t u,vs.getD i Value.none=.ref a/\h.get? a=some o/\o.data=.seq #[.int (ps.getD i (0,0)).1 t,.int (ps.getD i (0,0)).2 u] k:=by
 induction r with
 | nil=>intro i hi;simp at hi
 | @cons a o k t u x y vs ps ha hc hd r ih=>
  intro i hi
  cases i with
  | zero=>exact⟨a,o,k,t,u,rfl,ha,hd⟩
  | succ i=>
   obtain⟨a',o',k',t',u',e1,e2,e3⟩:=ih (i:=i) (by simpa using hi)
   exact⟨a',o',k',t',u',by simpa using e1,e2,by simpa using e3⟩
end
end L2.Srt
namespace L2
open PySem PySem.Spec PyProof.Rows L2.Srt
inductive PrV (K:PySem.W.Frag) (H:Hp):List V->List (Int × Int)->Prop
 | nil:PrV K H [] []
 | cons {a:Addr} {x y:Int} {xs:List V} {ps:List (Int × Int)}:SqT K H a [.int x,.int y]->PrV K H xs ps->PrV K H (.ref a::xs) ((x,y)::ps)
section
variable {X:Cx}
theorem PrV.len {K:PySem.W.Frag} {H:Hp} {xs:List V} {ps:List (Int × Int)} (r:PrV K H xs ps):xs.length=ps.length:=by
 induction r with
 | nil=>rfl
 | cons _ _ ih=>simp[ih]
end
end L2
namespace L2.FE
open PySem PySem.Spec PyProof.Rows
noncomputable def setOf (h:Hh) (n:Nat):Option (List Int):=match h[n]? with
 | some (.set ns)=>some ns
 | _=>none
section
variable {X:Cx} {g:GG} {ε:EE} {K:PySem.W.Frag}
theorem aM.set {α:List Addr} {H:Hp} {h:Hh} {n:Nat} {p:Addr} {ns:List Int} (r:aM K g α H h) (e:setOf h n=some ns) (hp:α[n]?=some p):H p=some (.set (fun k=>ns.any (· == k)) ns.length):=by
 unfold setOf at e
 cases eo:h[n]? with
 | none=>rw[eo] at e;cases e
 | some o=>
  rw[eo] at e
  cases o with
  | set k=>cases e;exact r.here n p _ hp eo
  | _=>cases e
end
noncomputable def zO (h:Hh) (n:Nat):Option (List (List Key × D)):=match h[n]? with
 | some (.dit kvs)=>some kvs
 | _=>none
noncomputable abbrev PDT (K:PySem.W.Frag) (g:GG) (α:List Addr) (H:Hp):List (List Key × D)->List (List Key × V)->Prop:=Paired (fun(a:List Key × D) (b:List Key × V)=>a.1=b.1/\aC K g α H a.2 b.2)
section
variable {K:PySem.W.Frag} {g:GG} {α:List Addr} {H:Hp} {h:Hh}
theorem aM.dit {n:Nat} {p:Addr} {kvs:List (List Key × D)} (r:aM K g α H h) (e:zO h n=some kvs) (hp:α[n]?=some p):∃kws,H p=some (.dT kws)/\PDT K g α H kvs kws:=by
 unfold zO at e
 cases eo:h[n]? with
 | none=>rw[eo] at e;cases e
 | some o=>
  rw[eo] at e
  cases o with
  | dit k=>cases e;exact r.here n p _ hp eo
  | _=>cases e
theorem PDT.ext {α':List Addr} {H':Hp} {kvs:List (List Key × D)} {kws:List (List Key × V)} (e:Ext K α H α' H') (r:PDT K g α H kvs kws):PDT K g α' H' kvs kws:=Paired.Cn e.toEx0 r
theorem aB.dit {Q:VK} {kvs:List (List Key × D)} {kws:List (List Key × V)} {p:Addr} (w:aB K g α H Q (.ref h.length) (h++[.dit kvs])) (r:aM K g α H h) (rs:PDT K g α H kvs kws) (hp:H p=none):Q (.ref p) (upd H p (.dT kws)):=by
 have x:=Ext.push (K:=K) (α:=α) (o:=.dT kws) hp
 exact w _ _ _ x (r.push hp ⟨_,aJ,rs.ext x⟩) (.ref (by rw[<- r.len];simp))
end
end L2.FE
namespace L2
open PySem PySem.Spec PyProof.Rows
section
variable {prog:Program} {w:World} {A:Around} {R:Result->Shared->Prop} {s:Shared} {elt tg iter tg2 iter2:Expr} {scope:Scope} {pos:Pos} {it acc:Value} {env:Env}
noncomputable abbrev e2 (elt tg iter tg2 iter2:Expr) (scope:Scope) (pos:Pos):Expr:=.ListComp elt [⟨tg,iter,[],0⟩,⟨tg2,iter2,[],0⟩] scope pos
end
end L2
namespace L2.FE
open PySem PySem.Spec PyProof.Rows
noncomputable def ek:List D->Hh->R D:=fun ds h=>match fF ds h with
 | .ok d h'=>.ok d h'
 | _=>qp ds h
section
variable {X:Cx} {g:GG} {ε:EE} {K:PySem.W.Frag}
theorem ot (hg:X.A.guards=some []) (hu:X.A.units+64<cLine):aR X (.builtin "repr") (fun vs H Q=>fO X.K vs H Q\/m3 X.K vs H Q):=aR.or (wt hg hu) (qC hg hu)
theorem oJ:g6 K g ε ek (fun vs H Q=>fO K vs H Q\/m3 K vs H Q):=by
 intro α H h a x Q r ra w
 unfold ek at w
 cases e:fF a h with
 | ok d h'=>rw[e] at w;exact .inl (vC α H h a x Q r ra (by rw[e];exact w))
 | err z h'=>rw[e] at w;exact .inr (pK α H h a x Q r ra w)
 | bad=>rw[e] at w;exact .inr (pK α H h a x Q r ra w)
theorem pj {ds:List D} {h:Hh} {s:Str} (e:fF ds h=.ok (.str s) h):ek ds h=.ok (.str s) h:=by delta ek;rw[e]
end
noncomputable def gc:List D->Hh->R D:=fun ds h=>match ds with
 | [.int i]=>if sml i=true then .ok (.str (toString i)) h else .bad
 | _=>.bad
section
variable {X:Cx} {g:GG} {ε:EE} {K:PySem.W.Frag}
theorem lW:aR X (.type "str") (fun vs H Q=>∃i,vs=[.int i]/\i.natAbs.log2<1920/\Q (.str (toString i)) H):=by
 intro pins s σ H xs us Q I r h
 obtain⟨i,rfl,hi,q⟩:=h
 obtain⟨u,rfl,t,rfl⟩:=vals1 r
 exact PySem.P.str_of_int hi ⟨.str (toString i),H,I.tok _,⟨_,rfl⟩,q⟩
theorem rA:g6 K g ε gc (fun vs H Q=>∃i,vs=[.int i]/\i.natAbs.log2<1920/\Q (.str (toString i)) H):=by
 intro α H h a x Q r ra w
 unfold gc at w
 cases ra with
 | nil=>exact w.elim
 | cons rd rr=>
  cases rr with
  | cons _ _=>cases rd<;>exact w.elim
  | nil=>
   cases rd with
   | int i=>
    obtain⟨hl,w⟩:=WQ.bI w
    exact⟨i,rfl,Nat.lt_trans (fV hl) (by decide),aB.now w r (.str _)⟩
   | _=>exact w.elim
end
section
variable {h:Hh}
@[simp] theorem qh {i:Int}:gc [.int i] h=if sml i=true then .ok (.str (toString i)) h else .bad:=Eq.trans rfl rfl
end
variable {X:Cx} {g:GG}
theorem r6 {K:PySem.W.Frag} {ε:EE} {mi:MI} {ix:List Nat} {tt:TT} {te:TE} {σ:St} {H:Hp} {Q:VK} (t:zk (tMI K g ε mi) ix tt te σ H Q):nQ (tMI K g ε mi) 1 ix (h9 0) tt te σ H Q:=by
 obtain⟨α,env,h,s,w⟩:=t
 refine⟨α,env,h,s,w.mono fun sr h1 _ z J H' α' e hr rd acc ha=>?_⟩
 obtain⟨W,w0,st⟩:=z J H' α' e hr rd acc ha
 refine⟨W,w0,fun i m ys H1 hw=>(st i m ys H1 hw).imp id fun⟨a,b⟩=>⟨a,fun σ0 x H2 hc hy=>?_⟩⟩
 obtain⟨ts,tl,rfl⟩:=hc
 match ts,tl with
 | [t0],_=>exact⟨⟨[some x],rfl,rfl⟩,b x H2 hy⟩
theorem eF {nl:NL} [gZ nl] {elt iter:Expr} {x:Str} {px:Pos} {ifs:List Expr} {scope osc:Scope} {pos:Pos} {mi:MI} {tt:MT} {te:ME} (ix:List Nat) (N':List Str)
  (hxe:X.xe=fun _ _=>False) (hc:X.calm=true) (ho:X.env.scope=osc) (hN:N'=x::ix.map fun i=>(X.N[i]?).getD ("" : Str)) (hnd:N'.Nodup)
  (hall:(∀y∈scope.names,y.2=.free->osc.names.lookup y.1=some .cell)/\(∀y∈scope.names,y.2≠.cell)/\scope.kind=.function/\(∀y∈scope.names,y.2=.local->scope.names.lookup y.1=some .local)/\scope.names.lookup x=some .local/\(∀y∈N'.tail,scope.names.lookup y=some .free))
  (hi:PI X (.Name x px) iter (tMI X.K g E00 mi))
  (ht:∀cl C aH aS fp,PTs (cn X scope cl C aH aS fp N') ifs (tMT X.K g E00 tt))
  (he:∀cl C aH aS fp,PE (cn X scope cl C aH aS fp N') elt (tM X.K g E00 te))
  (hs:∀x,foldedSetIterable iter X.env x=pure x:=by intro _;rfl) :
  PE X (.ListComp elt [⟨.Name x px,iter,ifs,0⟩] scope pos) (tM X.K g E00 (ck nl mi ix tt te)):=by
 refine PE.imp (PE.frz (vA (tgr:=h9 0) ix [x] N' hxe hc ho hN hnd ⟨hall.1,hall.2.1,hall.2.2.1,hall.2.2.2.1,fun y hy=>hall.2.2.2.2.2 y (by rw[hN] at hy ⊢;exact hy)⟩ hi (fun cl C aH aS fp=>cV (X:=cn X scope cl C aH aS fp N') hnd (show N'[0]?=some x by rw[hN];rfl) (.inl (lookup_relabel_local hall.2.2.2.2.1)) (.inr (lookup_relabel_local hall.2.2.2.2.1))) ht he hs)) fun σ H Q t=>?_
 exact r6 (pI (fun _ _ z=>z) t)
theorem j4 {nl:NL} [gZ nl] {elt iter:Expr} {x z:Str} {px pz:Pos} {ifs:List Expr} {scope osc:Scope} {pos spos:Pos} {mi:MI} {tt:MT} {te:ME} {i:Nat} (ix:List Nat) (N':List Str)
  (hxe:X.xe=fun _ _=>False) (hc:X.calm=true) (ho:X.env.scope=osc) (hN:N'=x::ix.map fun i=>(X.N[i]?).getD ("" : Str)) (hnd:N'.Nodup)
  (hall:(∀y∈scope.names,y.2=.free->osc.names.lookup y.1=some .cell)/\(∀y∈scope.names,y.2≠.cell)/\scope.kind=.function/\(∀y∈scope.names,y.2=.local->scope.names.lookup y.1=some .local)/\scope.names.lookup x=some .local/\(∀y∈N'.tail,scope.names.lookup y=some .free))
  (hi:PI X (.Name x px) iter (tMI X.K g E00 mi))
  (ht:∀cl C aH aS fp,PTs (cn X scope cl C aH aS fp N') ifs (tMT X.K g E00 tt))
  (he:∀cl C aH aS fp,PE (cn X scope cl C aH aS fp N') elt (tM X.K g E00 te))
  (hNN:X.N.Nodup) (hz:X.N[i]?=some z) (hl:X.env.scope.names.lookup z=some .local:=by rfl)
  (hsw:swapsWith (.ListComp elt [⟨.Name x px,iter,ifs,0⟩] scope pos) (some (.Name z pz)) spos.line X.env=pure true:=by rfl)
  (hs:∀x,foldedSetIterable iter X.env x=pure x:=by intro _;rfl) :
  PS X (.Assign [.Name z pz] (.ListComp elt [⟨.Name x px,iter,ifs,0⟩] scope pos) spos) (tMS X.K g E00 (bB i (ck nl mi ix tt te))):=by
 refine PS.imp (PS.frz (p5 (tgr:=h9 0) ix [x] N' hxe hc ho hN hnd ⟨hall.1,hall.2.1,hall.2.2.1,hall.2.2.2.1,fun y hy=>hall.2.2.2.2.2 y (by rw[hN] at hy ⊢;exact hy)⟩ hi (fun cl C aH aS fp=>cV (X:=cn X scope cl C aH aS fp N') hnd (show N'[0]?=some x by rw[hN];rfl) (.inl (lookup_relabel_local hall.2.2.2.2.1)) (.inr (lookup_relabel_local hall.2.2.2.2.1))) ht he hNN hz hl hsw hs)) fun E σ H ⟨α,env,h,s,w⟩=>r6 (pI (nl:=nl) (Q:=fun v H1=>E.nx (σ.set i (some v)) H1) (fun v H1 z=>yn z) (tM.use s w.bind fun d1 h1 v1 H1 α1 e1 s1 r1 w1=>(show cy X.K g α H E (.nx (env.set i (some d1))) h1 from w1) H1 α1 e1 s1.heap _ (s1.vs.set r1)))
end L2.FE
namespace L2.FE
open PySem PySem.Spec PyProof.Rows
noncomputable def isStr:D->Bool
 | .str _=>true
 | _=>false
noncomputable def aT (f:D->List D->Hh->R D) (o:ME) (a:MA):ME:=fun env h=>(o env h).bind fun x h1=>if isStr x=true then (a env h1).bind fun xs h2=>f x xs h2 else .bad
noncomputable def jG (f:D->List D->Hh->R D) (o:ME):ME:=fun env h=>(o env h).bind fun x h1=>if isStr x=true then f x [] h1 else .bad
section
variable {X:Cx} {g:GG} {ε:EE} {K:PySem.W.Frag}
theorem ik {α:List Addr} {H:Hp} {d:D} {x:V} (rd:aC K g α H d x) (e:isStr d=true):tyV K "str" x H:=by
 cases rd<;>first | rfl | cases e
theorem iT {o e:Expr} {es:List Expr} {mo:ME} {mr:MA} {name:Str} {apos cpos:Pos} {id:String} {r:V->List V->Hp->VK->Prop} {f:D->List D->Hh->R D} (slot:Slot "str" name id) (hty:typeOf (.builtin id)=pure (.type "method_descriptor")) (hm:MtM X id r) (im:mX X.K g ε f r) (ho:PE X o (tM X.K g ε mo)) (ha:PA X (e::es) (tMA X.K g ε mr))
  (hbase:attributeBase o name X.env (eval o X.env)=eval o X.env:=by rfl)
  (hfew:((backTo cpos (starEach (e::es) X.env)).all (fun x=>!x.1)&&(backToKw cpos (keywordEach [] X.env)).all (fun x=>x.1.isSome)
   && decide ((e::es).length+([]:List Keyword).length+(if ([]:List Keyword).isEmpty then 0 else 1)<30))=true:=by rfl)
  (hline:(apos.endLine == cpos.line)=true:=by rfl) (hs:starEach (e::es) X.env=(false,eval e X.env)::starEach es X.env:=by rfl) (hplain:(backTo cpos (starEach es X.env)).any (·.1)=false:=by rfl) :
  PE X (.Call (.Attribute o name apos) (e::es) [] cpos) (tM X.K g ε (aT f mo mr)):=
 PE.imp (xj PySem.F.plainAttrs_str slot hty hm ho ha hbase hfew hline hs hplain) fun σ H Q ⟨α,env,h,s,w⟩=>tM.use s w.bind fun d1 h1 v1 H1 α1 e1 s1 r1 w1=>by
  obtain⟨hl,w1⟩:=WQ.bI w1
  refine⟨ik r1 hl,tMA.use s1 (w1.ext e1).bind fun d2 h2 v2 H2 α2 e2 s2 r2 w2=>?_⟩
  exact im α2 H2 h2 d1 d2 v1 v2 Q s2.heap (r1.ext e2) r2 ((w2.ext e2).mono fun _ _ _ p=>aB.ext (e1.trans e2) p)
theorem sj {o:Expr} {mo:ME} {name:Str} {apos cpos:Pos} {id:String} {r:V->List V->Hp->VK->Prop} {f:D->List D->Hh->R D} (slot:Slot "str" name id) (hty:typeOf (.builtin id)=pure (.type "method_descriptor")) (hm:MtM X id r) (im:mX X.K g ε f r) (ho:PE X o (tM X.K g ε mo))
  (hbase:attributeBase o name X.env (eval o X.env)=eval o X.env:=by rfl) (hline:(apos.endLine == cpos.line)=true:=by rfl) :
  PE X (.Call (.Attribute o name apos) [] [] cpos) (tM X.K g ε (jG f mo)):=
 PE.imp (AA PySem.F.plainAttrs_str slot hty hm ho hbase hline) fun σ H Q ⟨α,env,h,s,w⟩=>tM.use s w.bind fun d1 h1 v1 H1 α1 e1 s1 r1 w1=>by
  obtain⟨hl,w1⟩:=WQ.bI w1
  exact⟨ik r1 hl,im α1 H1 h1 d1 [] v1 [] Q s1.heap r1 .nil ((w1.ext e1).mono fun _ _ _ p=>aB.ext e1 p)⟩
noncomputable def Au (t:Str->Bool):V->List V->Hp->VK->Prop:=fun x vs H Q=>∃z,x=.str z/\vs=[]/\Q (.bl (t z)) H
noncomputable def nZ (t:Str->Bool):D->List D->Hh->R D:=fun o ds h=>match o,ds with
 | .str z,[]=>.ok (.bl (t z)) h
 | _,_=>.bad
theorem wV {t:Str->Bool}:mX K g ε (nZ t) (Au t):=by
 intro α H h o a y x Q r ro ra w
 unfold nZ at w
 split at w
 ·cases ro
  cases ra
  exact⟨_,rfl,rfl,aB.now w r (.bl _)⟩
 ·exact w.elim
theorem qO:MtM X "str.isascii" (Au Txt.isascii):=by
 intro pins s σ H x vs v us Q I rx rv h
 obtain⟨z,rfl,rfl,q⟩:=h
 obtain⟨t,rfl⟩:=rx
 cases rv
 exact SC.isascii ⟨.bl _,H,I,rfl,q⟩
theorem qv:MtM X "str.isdigit" (Au Txt.isdigit):=by
 intro pins s σ H x vs v us Q I rx rv h
 obtain⟨z,rfl,rfl,q⟩:=h
 obtain⟨t,rfl⟩:=rx
 cases rv
 exact SC.isdigit ⟨.bl _,H,I,rfl,q⟩
theorem lR:∀{zs:List Str} {us:List Value},Vals (zs.map V.str) us->StrsAre us zs
 | [],_,.nil=>.nil
 | z::zs,_,.cons ⟨t,e⟩ r=>by subst e;exact .cons z t (lR r)
noncomputable def wgt (zs:List Str):Nat:=(zs.map (·.length)).sum+zs.length
noncomputable def rJoin (K:PySem.W.Frag):V->List V->Hp->VK->Prop:=fun x vs H Q=>∃(sep:Str) (p:Addr) (zs:List Str),x=.str sep/\vs=[.ref p]/\SqL K H p (zs.map V.str)/\sep.length<=16/\wgt zs<=1048576/\Q (.str (Txt.join sep zs)) H
theorem fN:MtM X "str.join" (rJoin X.K):=by
 intro pins s σ H x vs v us Q I rx rv h
 obtain⟨sep,p,zs,rfl,rfl,hq,h1,h2,q⟩:=h
 obtain⟨t,rfl⟩:=rx
 obtain⟨u,rfl,ru⟩:=rv.one
 cases ru
 obtain⟨its,rs,pl,hz⟩:=I.list hq
 exact join_listW pl.isList (by simpa using lR rs) h1 h2 fun t' k=>⟨.str _,H,I.tok _,⟨_,rfl⟩,q⟩
noncomputable def strsOf:List D->Option (List Str)
 | []=>some []
 | .str z::r=>(strsOf r).map (z::·)
 | _::_=>none
theorem iV:∀{ds:List D} {zs:List Str},strsOf ds=some zs->ds=zs.map D.str
 | [],zs,e=>by cases e;rfl
 | d::r,zs,e=>by
  cases d with
  | str z=>
   cases h:strsOf r with
   | none=>simp[strsOf,h] at e
   | some ys=>
    simp[strsOf,h] at e
    subst e
    rw[List.map_cons,<- iV h]
  | _=>simp[strsOf] at e
theorem qG (zs:List Str):strsOf (zs.map D.str)=some zs:=by
 induction zs with
 | nil=>rfl
 | cons z zs ih=>rw[List.map_cons];unfold strsOf;rw[ih];rfl
theorem ko {α:List Addr} {H:Hp}:∀{zs:List Str} {vs:List V},ao K g α H (zs.map D.str) vs->vs=zs.map V.str
 | [],_,.nil=>rfl
 | z::zs,_,.cons r rs=>by cases r;rw[ko rs];rfl
noncomputable def bM:D->List D->Hh->R D:=fun o ds h=>match o,ds with
 | .str sep,[.frl xs]=>match strsOf xs with
  | some zs=>if sep.length<=16/\wgt zs<=1048576 then .ok (.str (Txt.join sep zs)) h else .bad
  | none=>.bad
 | _,_=>.bad
theorem fT:mX K g ε bM (rJoin K):=by
 intro α H h o a y x Q r ro ra w
 unfold bM at w
 split at w
 ·split at w
  ·rename_i zs e2
   obtain⟨hl,w⟩:=WQ.bI w
   have e3:=iV e2
   subst e3
   cases ro
   cases ra with
   | cons rd rr=>
    cases rr
    cases rd with
    | @frl _ p vs hq rs=>
     have e4:=ko rs
     subst e4
     exact⟨_,p,zs,rfl,rfl,hq.sq,hl.1,hl.2,aB.now w r (.str _)⟩
  ·exact w.elim
 ·exact w.elim
noncomputable def Ah:V->List V->Hp->VK->Prop:=fun x vs H Q=>∃(z y:Str),x=.str z/\vs=[.str y]/\(y.length == 0)=false/\z.length<=1000000/\∀l,H l=none->Q (.ref l) (upd H l (.lst ((Txt.split z y).map V.str)))
theorem oM:∀(zs:List Str) (k:Nat),Vals (zs.map V.str) (strsFrom k zs)
 | [],_=>.nil
 | z::zs,k=>.cons ⟨k,rfl⟩ (oM zs (k+1))
theorem vB:MtM X "str.split" Ah:=by
 intro pins s σ H x vs v us Q I rx rv h
 obtain⟨z,y,rfl,rfl,hy,hz,q⟩:=h
 obtain⟨t,rfl⟩:=rx
 obtain⟨u,rfl,ru⟩:=rv.one
 obtain⟨u,rfl⟩:=ru
 have hsz:z.length<=sizeLine:=by rw[sizeLine_eq];omega
 have hw:=split_weight z y (by have:=hy;simp at this;omega)
 cases h1:(decide (z.length<y.length) || decide (Builtin.Str.strKind z<Builtin.Str.strKind y))
 ·cases hf:(Builtin.Str.occurrences z y 0 z.length (z.length+1)).isEmpty
  ·have e:Txt.split z y=Builtin.Str.partsBetween z (Builtin.Str.occurrences z y 0 z.length (z.length+1)) y.length:=(if_neg (ne_true_of_eq_false h1)).trans (if_neg (ne_true_of_eq_false hf))
   rw[e] at hw q
   refine call_meets F.slot_str_split (typeIs_str _ _ _) F.entry_str_split (F.args_str_split_2 _ _) (meets_str_split_sep z y t u h1 hy hf hsz (by rw[sizeLine_eq];omega)) ?_
   exact⟨.ref _,_,I.sQ (oM _ _) (by rw[List.length_map,sizeLine_eq];omega),rfl,q _ I.fresh⟩
  ·have e:Txt.split z y=[z]:=(if_neg (ne_true_of_eq_false h1)).trans (if_pos hf)
   rw[e] at q
   refine call_meets F.slot_str_split (typeIs_str _ _ _) F.entry_str_split (F.args_str_split_2 _ _) (meets_str_split_not_found z y t u h1 hy hf) ?_
   exact⟨.ref _,_,I.sQ (ys:=[V.str z]) (its:=[.str z t]) (.cons ⟨t,rfl⟩ .nil) (by rw[sizeLine_eq];simp),rfl,q _ I.fresh⟩
 ·have e:Txt.split z y=[z]:=if_pos h1
  rw[e] at q
  refine call_meets F.slot_str_split (typeIs_str _ _ _) F.entry_str_split (F.args_str_split_2 _ _) (meets_str_split_cannot_occur z y t u h1) ?_
  exact⟨.ref _,_,I.sQ (ys:=[V.str z]) (its:=[.str z t]) (.cons ⟨t,rfl⟩ .nil) (by rw[sizeLine_eq];simp),rfl,q _ I.fresh⟩
noncomputable def cz (nl:NL):D->List D->Hh->R D:=fun o ds h=>match o,ds with
 | .str z,[.str y]=>if (y.length == 0)=false/\z.length<=1000000 then nl ((Txt.split z y).map D.str) h else .bad
 | _,_=>.bad
theorem gm {α:List Addr} {H:Hp}:∀(zs:List Str),ao K g α H (zs.map D.str) (zs.map V.str)
 | []=>.nil
 | z::zs=>.cons (.str z) (gm zs)
theorem hU {nl:NL} [gZ nl] {o e:Expr} {mo:ME} {mr:MA} {apos cpos:Pos} (ho:PE X o (tM X.K g ε mo)) (ha:PA X [e] (tMA X.K g ε mr))
  (hbase:attributeBase o "split" X.env (eval o X.env)=eval o X.env:=by rfl)
  (hfew:((backTo cpos (starEach [e] X.env)).all (fun x=>!x.1)&&(backToKw cpos (keywordEach [] X.env)).all (fun x=>x.1.isSome)
   && decide (([e]:List Expr).length+([]:List Keyword).length+(if ([]:List Keyword).isEmpty then 0 else 1)<30))=true:=by rfl)
  (hline:(apos.endLine == cpos.line)=true:=by rfl) (hs:starEach [e] X.env=(false,eval e X.env)::starEach [] X.env:=by rfl) (hplain:(backTo cpos (starEach [] X.env)).any (·.1)=false:=by rfl) :
  PE X (.Call (.Attribute o "split" apos) [e] [] cpos) (tM X.K g ε (aT (cz nl) mo mr)):=
 PE.imp (PE.frz (xj PySem.F.plainAttrs_str PySem.F.slot_str_split PySem.F.type_str_split vB ho ha hbase hfew hline hs hplain)) fun σ H Q ⟨α,env,h,s,w⟩=>tM.use s w.bind fun d1 h1 v1 H1 α1 e1 s1 r1 w1=>by
  obtain⟨hl,w1⟩:=WQ.bI w1
  refine⟨ik r1 hl,tMA.use s1 (w1.ext e1).bind fun d2 h2 v2 H2 α2 e2 s2 r2 w2=>?_⟩
  have w2:=(w2.ext e2).mono fun _ _ _ p=>aB.ext (e1.trans e2) p
  unfold cz at w2
  split at w2
  ·obtain⟨hb,w2⟩:=WQ.bI w2
   cases r1
   cases r2 with
   | cons rd rr=>
    cases rr
    cases rd
    exact⟨_,_,rfl,rfl,hb.1,hb.2,fun l hl=>NL.post w2 s2.heap (gm _) hl⟩
  ·exact w2.elim
end
section
variable {X:Cx} {g:GG} {ε:EE} {K:PySem.W.Frag}
noncomputable def k8:D->D->Hh->R D:=fun a b h=>match a,b with
 | .str z,.int i=>if z.length<=1000000 then (match atI z.cps.toList i with
  | some c=>.ok (.str ⟨#[c]⟩) h
  | none=>.bad) else .bad
 | _,_=>.bad
theorem qZ:cG K g ε k8 (rIx K):=by
 intro α H h a b x y Q r ra rb w
 unfold k8 at w
 split at w
 ·obtain⟨hl,w⟩:=WQ.bI w
  split at w
  ·rename_i c e
   cases ra
   cases rb
   exact .inr (.inr ⟨_,_,c,rfl,rfl,by rw[sizeLine_eq];omega,e,aB.now w r (.str _)⟩)
  ·exact w.elim
 ·exact w.elim
noncomputable def Ea:V->Option Int->Option Int->Hp->VK->Prop:=fun x lo hi H Q=>∃z,x=.str z/\z.length<=1000000/\Q (.str (Txt.slice z lo hi)) H
theorem part_of {v:Value} {o:Option Int} (p:IsPart v o):∃l:Option (Int × Tok),v=partValue l/\l.map (·.1)=o:=by
 cases p with
 | none=>exact⟨none,rfl,rfl⟩
 | int i t=>exact⟨some (i,t),rfl,rfl⟩
theorem An:SlR X Ea:=by
 intro pins s σ H x v vl vu lo hi sl Q I rx hs pl pu h
 obtain⟨z,rfl,hz,q⟩:=h
 obtain⟨t,rfl⟩:=rx
 obtain⟨l,rfl,rfl⟩:=part_of pl
 obtain⟨u,rfl,rfl⟩:=part_of pu
 have hsz:z.length<=sizeLine:=by rw[sizeLine_eq];omega
 refine⟨"str", _,PySem.F.slot_str_getitem.lookup,typeIs_str _ _ _,wpAny_getItem_str_slice (l:=l) (u:=u) (st:=none) hs rfl
  (post_val_or_str ⟨Nat.le_trans (Txt.slice_le z _ _) hsz,fun t' k=>⟨.str _,H,I.tok _,⟨_,rfl⟩,q⟩⟩)⟩
noncomputable def bV (a:ME) (l u:MO):ME:=fun env h=>(a env h).bind fun x h1=>(l env h1).bind fun lo h2=>(u env h2).bind fun hi h3=>match x with
 | .str z=>if z.length<=1000000 then .ok (.str (Txt.slice z lo hi)) h3 else .bad
 | _=>.bad
theorem du {e:Expr} {me:ME} {lo hi:Option Expr} {ml mh:MO} {p2 pos:Pos} (he:PE X e (tM X.K g ε me)) (hl:PO X lo (tMO X.K g ε ml)) (hu:PO X hi (tMO X.K g ε mh)):PE X (.Subscript e (.Slice lo hi none p2) pos) (tM X.K g ε (bV me ml mh)):=
 PE.imp (oN An he hl hu) fun σ H Q ⟨α,env,h,s,w⟩=>tM.use s w.bind fun d1 h1 v1 H1 α1 e1 s1 r1 w1=>tMO.use s1 (w1.ext e1).bind fun o2 h2 H2 α2 e2 s2 w2=>tMO.use s2 (w2.ext e2).bind fun o3 h3 H3 α3 e3 s3 w3=>by
  have tr:=e1.trans (e2.trans e3)
  have r3:=r1.ext (e2.trans e3)
  have w4:=(w3.ext e3).mono fun _ _ _ p=>aB.ext tr p
  cases r3 with
  | str z=>
   obtain⟨hb,w4⟩:=WQ.bI w4
   exact⟨z,rfl,hb,aB.now w4 s3.heap (.str _)⟩
  | _=>exact w4.elim
noncomputable def lK:List D->Hh->R D:=fun ds h=>match ds with
 | [.str z]=>if z.length<=640 then (match PySem.intText? z with
  | some n=>.ok (.int n) h
  | none=>.bad) else .bad
 | _=>.bad
theorem l9:aR X (.type "int") (fun vs H Q=>∃z n,vs=[.str z]/\z.length<=640/\PySem.intText? z=some n/\Q (.int n) H):=by
 intro pins s σ H xs us Q I r h
 obtain⟨z,n,rfl,hz,hn,q⟩:=h
 obtain⟨u,rfl,t,rfl⟩:=vals1 r
 exact PySem.W.KIN.call_text hn hz ⟨.int n,H,I.tok _,⟨_,rfl⟩,q⟩
theorem rC:g6 K g ε lK (fun vs H Q=>∃z n,vs=[.str z]/\z.length<=640/\PySem.intText? z=some n/\Q (.int n) H):=by
 intro α H h a x Q r ra w
 unfold lK at w
 split at w
 ·obtain⟨hl,w⟩:=WQ.bI w
  split at w
  ·rename_i n e
   cases ra with
   | cons rd rr=>
    cases rr
    cases rd
    exact⟨_,n,rfl,hl,e,aB.now w r (.int _)⟩
  ·exact w.elim
 ·exact w.elim
end
end L2.FE
namespace PySem
open Sem (wp)
open AutoSeq1 (wpAny_loadPart')
theorem Ax (l:Addr) (items:Array Value) (n:Nat) (dct:Option Addr) (sl:Array (Option Value)) (t:Tok) :
  Meets (Builtin.«enumerate.__new__» ⟨[.type "enumerate", .ref l],[("start", .int 1 t)]⟩) (fun _ R s=>s.heap.get? l=some { cls:=.type "list", dict:=dct,data:=.seq items n,slots:=sl } ∧
   R (.ok (.ret (.ref (s.heap.push { cls:=.type "list_iterator", data:=.fields #[.ref l,.int 0 0] }).objs.size)))
    { s with heap:=(s.heap.push { cls:=.type "list_iterator", data:=.fields #[.ref l,.int 0 0] }).push { cls:=.type "enumerate", data:=.fields #[.none,.bool false,.ref s.heap.objs.size,rawInt 1,.none,.none] } }):=
 .of_wp fun prog w A R s h=>by
  obtain⟨hp,g,d,tk,os⟩:=s
  obtain⟨hl,h⟩:=h
  have hsub:=sub_enumerate
  have hL:Heap.IsList (Shared.heap ⟨hp,g,d,tk,os⟩) l items:=⟨_,hl,rfl,n,rfl⟩
  wp_walk using wpAny_loadPart' hl
  refine wpAny_stack_any fun st=>wpAny_pure ?_
  split
  ·rename_i c _ _ _ _ _
   cases (c == Value.type "enumerate")
   ·wp_walk using wpAny_loadPart' hl,wpAny_pyIter_list hL
    exact⟨_,rfl,h⟩
   ·wp_walk using wpAny_loadPart' hl,wpAny_pyIter_list hL
    exact⟨_,rfl,h⟩
  ·wp_walk using wpAny_loadPart' hl,wpAny_pyIter_list hL
   exact⟨_,rfl,h⟩
theorem yC {self a:Value} {kw:List (Str × Value)}:Meets (Builtin.«object.__init__» ⟨[self,a],kw⟩) (fun _ R s=>s.TypeIs self "enumerate" /\ R (.ok (.ret .none)) s):=by
 refine Meets.of_wp fun prog w A R s hs=>?_
 obtain⟨hT,hq⟩:=hs
 have hl:=F.called_enumerate.init.lookup
 have hm:=F.called_enumerate.made
 repeat (any_goals (first | assumption | wp_step))
 all_goals first | exact⟨_,rfl,hq⟩ | skip
section
variable {prog:Program} {w:World} {A:Around} {E:Value->Shared->Prop} {s:Shared}
theorem xJ {l:Addr} {t:Tok} {S:Spec} {Q:Value->Shared->Prop} (g:Meets (Builtin.«enumerate.__new__» ⟨[.type "enumerate", .ref l],[("start", .int 1 t)]⟩) S)
  (h:S A.in1 (wants (fun obj s₁=>s₁.TypeIs obj "enumerate" /\ Q obj s₁) E) s):wpAny (model prog w) A (call (.type "enumerate") [.ref l] [("start", .int 1 t)]) Q E s:=by
 have ft:=F.called_enumerate
 obtain⟨c,tl,hmro⟩:=ft.mro
 have hmade:=ft.made
 have hsub:=ft.sub
 have hct:checkTypeCall "enumerate" ⟨[.ref l],[("start", .int 1 t)]⟩=pure ():=by kernel_rfl
 have hcn:checkBuiltinCall "enumerate.__new__" ⟨[.type "enumerate", .ref l],[("start", .int 1 t)]⟩=pure ():=by kernel_rfl
 refine wpAny_call (codeAny_of_tree ?_)
 show wpAny _ _ (callAny (.type "enumerate") _) _ _ _
 refine wpAny_pure ⟨Code.quiet_builtin _ (by decide +kernel),codeAny_builtin F.entry_type_call ?_⟩
 rw[Around.under_plain (weight_type_call_type "enumerate" [.ref l] [("start", .int 1 t)]) (units_type_call_type "enumerate" [.ref l] [("start", .int 1 t)])]
 have h1:=ft.notType
 have h2:=ft.canCreate
 repeat (any_goals (first | assumption | wp_step))
 refine codeAny_mono (codeAny_call_builtin ft.plain F.entry_enumerate_new (wpAny_of_eq hcn (g prog w A.in1 _ s h))) fun r s₁ hr=>?_
 cases r with
 | error e=>exact hr
 | ok fl=>
  cases fl with
  | ret obj=>
   have hli:=ft.init.lookup
   have hbi:=ft.init.bind obj
   have hT:s₁.TypeIs obj "enumerate" := hr.1
   have hok:argsOk "object.__init__" ⟨[obj,.ref l],[("start", .int 1 t)]⟩:=by
    unfold argsOk;rw[signature?_of (id:="object.__init__") (n:=['_','_','t','i','n','i','_','_']) (o:=['t','c','e','j','b','o']) (by kernel_rfl) PySem.F.owner_object];kernel_rfl
   repeat (any_goals (first | assumption | wp_step))
   refine codeAny_mono (codeAny_call_builtin ft.init.plain F.entry_object_init (ft.init.check _ _ _ _ _ _ _ _ hT hok (yC prog w A.in1 _ s₁ (show s₁.TypeIs obj "enumerate" /\ wants (fun r s₂=>r=.none/\Q obj s₂) E _ s₁ from⟨hT,rfl,hr.2⟩)))) fun r₂ s₂ hr₂=>?_
   cases r₂ with
   | error e=>exact hr₂
   | ok fl₂=>
    cases fl₂ with
    | ret r=>
     obtain⟨rfl,hq⟩:=hr₂
     repeat (any_goals (first | assumption | wp_step))
    | _=>exact hr₂.elim
  | _=>exact hr.elim
end
end PySem
namespace L2
open PySem PySem.Spec PyProof.Rows
theorem Ap {prog:Program} {w:World} {A:Around} {it:Addr} {fp:List Addr} {n:Nat} {P:Nat->Value->Prop} {St:Nat->Heap->Prop} (D:Draws prog w A it fp n P St):Draws prog w A it fp (n+1) (fun i x=>∃j,i=j+1/\P j x) (fun i h=>∃j,i=j+1/\St j h) where
 live:=fun i h ⟨j,_,z⟩=>D.live j h z
 frame:=fun i h h' ⟨j,e,z⟩ k=>⟨j,e,D.frame j h h' z k⟩
 item:=fun i s Q E hi ⟨j,e,z⟩ q=>D.item j s Q E (by omega) z fun x h' tk p z' sb=>q x h' tk ⟨j,e,p⟩ ⟨j+1,by omega,z'⟩ sb
 done:=fun s Q E ⟨j,e,z⟩ q=>D.done s Q E (by rw[show n=j by omega];exact z) q
theorem Bb {prog:Program} {w:World} {A:Around} (hh:A.handled=none) (it l:Addr) (items:Array Value) (i:Nat) (hx:items[i]?=none) :
  Draws prog w A it [it,l] 0 (fun _ _=>True) (fun _ h=>h.IsListIter it l i/\h.IsList l items) where
 live:=fun _ _ st=>let ⟨o,ho,_⟩:=st.1;⟨o,ho⟩
 frame:=fun _ _ _ st hk=>⟨st.1.at fun o e=>hk it (by simp) o e,st.2.at fun o e=>hk l (by simp) o e⟩
 item:=fun j s Q E hj=>absurd hj (Nat.not_lt_zero _)
 done:=fun s Q E st hE=>wpAny_nextOf_list_end hh st.1 st.2 hx hE
noncomputable def Ies (K:PySem.W.Frag) (a:Addr):It:=
 ⟨fun i H=>∃xs x,SqL K H a xs/\xs[i]?=some x,fun i H x H'=>∃p v,x=.ref p/\H p=none/\(∀xs,SqL K H a xs->xs[i]?=some v)/\H'=upd H p (.tup [.int ((i+1:Nat):Int),v]),fun i H=>∃xs,SqL K H a xs/\xs.length<=i⟩
theorem qM {P:Program} {w:World} {K:PySem.W.Frag} {elts:List Expr} {k:Nat} {pos:Pos} {a it e:Addr} (hei:e≠it):Turn P w K (.Tuple elts k pos) (Ies K a) [e,it] e (fun i h=>(∃old,IsEnum h e it ((i+1:Nat):Int) old)/\h.IsListIter it a i) where
 mem:=by simp
 obj:=fun i h z b hb=>by
  obtain⟨⟨old,z1⟩,z2⟩:=z
  rcases List.mem_cons.mp hb with rfl | hb
  ·exact xk z1
  ·rw[List.mem_singleton.mp hb]
   obtain⟨o,q,_,d⟩:=z2
   exact⟨o,q,fun v y=>by rw[d] at y;cases y⟩
 keep:=fun i h h' z kk=>⟨let ⟨old,z1⟩:=z.1;⟨old,kk e (by simp) _ z1⟩,z.2.at fun o q=>kk it (by simp) o q⟩
 item:=by
  intro X hP hw hK hc i pins s σ H E I hf st hg
  subst hP hw hK
  obtain⟨xs,x,hq,hx⟩:=hg
  obtain⟨its,rv,p,hz⟩:=I.list hq
  obtain⟨u,hu,ru⟩:=rv.get hx
  have hl:=rv.length
  have plt:a<s.heap.objs.size:=by obtain⟨o,q,_⟩:=p.isList;exact Heap.lt_size q
  have hai:a≠it/\a≠e:=by
   obtain⟨oa,qa,ca,_⟩:=p.isList
   obtain⟨⟨old,z1⟩,oi,qi,ci,_⟩:=st
   exact⟨(fun q=>by rw[q,qi] at qa;cases qa;rw[ci] at ca;injection ca with y;exact absurd y (by decide)),(fun q=>by rw[q,z1] at qa;cases qa;injection ca with y;exact absurd y (by decide))⟩
  have DD:=Ap (Draws.list (prog:=X.prog) (w:=X.w) (A:=X.A.in1) (I.ok.hd hc) it a hai.1 its.toArray)
  have hef0:e∉[it,a]:=by simp;exact⟨hei,fun q=>hai.2 q.symm⟩
  have W:=WalksT.enumerateD (prog:=X.prog) (w:=X.w) (A:=X.A) DD e hei hef0 (by simp)
  refine qk DD e hei hef0 (i+1) s _ _ (by rw[List.size_toArray,<- hl];exact Nat.succ_lt_succ (List.getElem?_eq_some_iff.mp hx).1) ⟨st.1,i,rfl,st.2,p.isList⟩ fun T vals h1 tk hv hT ht hm k1=>?_
  obtain⟨t,v,⟨j,ej,hv1⟩,hv2⟩:=hv
  have ej:j=i:=by omega
  rw[ej] at hv1
  have ev:v=u:=by
   have:its[i]?=some v:=by simpa using hv1
   rw[hu] at this;exact(Option.some.inj this).symm
  subst ev
  refine⟨.ref T,rfl,W.go elts k pos (i+1) T { s with heap:=h1,toks:=tk } _ _ hm fun h2 st2 k2=>?_⟩
  have kk:∀b o,b∉[e,it]->s.heap.get? b=some o->h2.get? b=some o:=fun b o hb q=>k2 b o hb (k1 b o hb q)
  have hT2:lq h2 T vals:=by
   obtain⟨o,q,c⟩:=ht
   exact⟨o,k2 T o (fun z=>W.apart _ _ _ hm z) q,c⟩
  have hn:H T=none:=I.hok.fresh hT
  have nTf:∀b∈[e,it],b≠T:=fun b hb z=>by
   have hlt:b<s.heap.objs.size:=by
    rcases List.mem_cons.mp hb with rfl | hb
    ·obtain⟨old,z1⟩:=st.1;exact Heap.lt_size z1
    ·rw[List.mem_singleton.mp hb];obtain⟨o,q,_⟩:=st.2;exact Heap.lt_size q
   rw[z] at hlt;exact absurd hlt (Nat.not_lt.mpr hT)
  refine⟨.ref T,upd H T (.tup [.int ((i+1:Nat):Int),x]),I.yielded (t':=tk) hf kk hT ⟨by show 2<=sizeLine;decide,[.int ((i+1:Nat):Int) t,v],.cons ⟨t,rfl⟩ (.cons ru .nil),?_⟩,rfl,⟨T,x,rfl,hn,fun ys hy=>by rw[I.jW hy hq];exact hx,rfl⟩,⟨st2.1,by obtain⟨j2,e2,q2,_⟩:=st2.2;rw[show i+1=j2 by omega];exact q2⟩,fun b hb=>by rw[ay (nTf b hb)];exact(hf b hb).1⟩
  rw[hv2] at hT2;exact hT2
 done:=by
  intro X hP hw hK hc i pins s σ H E I hf st hg
  subst hP hw hK
  obtain⟨xs,hq,hx⟩:=hg
  obtain⟨its,rv,p,hz⟩:=I.list hq
  obtain⟨⟨old,z1⟩,z2⟩:=st
  have hl:=rv.length
  exact wpAny_pyNext_enum_endD (Bb (A:=X.A.in1) (I.ok.hd hc) it a its.toArray i (Array.getElem?_eq_none (by rw[List.size_toArray];omega))) z1 ⟨z2,p.isList⟩ fun h' eb=>⟨rfl,I.yN (t':=s.toks) hf fun b u hb q=>eb b u (fun z=>hb (by simp[z])) q⟩
 self:=fun A i s Q E z q=>by
  obtain⟨⟨old,z1⟩,z2⟩:=z
  exact wpAny_pyIter_enum z1 q
theorem xC {prog:Program} {w:World} {A:Around} {E:Value->Shared->Prop} {s:Shared} {l:Addr} {items:Array Value} {t:Tok} {Q:Value->Shared->Prop} (hL:s.heap.IsList l items)
  (h:∀h',IsEnum h' (s.heap.objs.size+1) s.heap.objs.size 1 .none->h'.IsListIter s.heap.objs.size l 0->h'.objs.size=s.heap.objs.size+2 →
   (∀b o,s.heap.get? b=some o->h'.get? b=some o)->Q (.ref (s.heap.objs.size+1)) { s with heap:=h' }) :
  wpAny (model prog w) A (call (.type "enumerate") [.ref l] [("start", .int 1 t)]) Q E s:=by
 obtain⟨⟨c,dct,dt,sl⟩,hl,hc,n,hd⟩:=hL
 cases (show c=.type "list" from hc)
 cases (show dt=.seq items n from hd)
 refine xJ (Ax l items n dct sl t) ⟨hl,?_⟩
 obtain⟨h1,e1⟩:∃h1,s.heap.push { cls:=.type "list_iterator", data:=.fields #[.ref l,.int 0 0] }=h1:=⟨_,rfl⟩
 have hz:h1.objs.size=s.heap.objs.size+1:=by rw[<- e1];exact Heap.size_push ..
 have hi:h1.get? s.heap.objs.size=some { cls:=.type "list_iterator", data:=.fields #[.ref l,.int 0 0] }:=by rw[<- e1];exact Heap.get?_push_size _ rfl
 have hk:∀b o,s.heap.get? b=some o->h1.get? b=some o:=fun b o x=>by rw[<- e1];exact Heap.get?_push_of_some _ x
 rw[e1]
 have he:IsEnum (h1.push { cls:=.type "enumerate", data:=.fields #[.none,.bool false,.ref s.heap.objs.size,rawInt 1,.none,.none] }) h1.objs.size s.heap.objs.size 1 .none:=Heap.get?_push_size _ rfl
 refine⟨⟨_,he,rfl⟩,?_⟩
 rw[hz] at he ⊢
 exact h _ he ⟨_,Heap.get?_push_of_some _ hi,rfl,rfl⟩ (by rw[Heap.size_push,hz]) fun b o x=>Heap.get?_push_of_some _ (hk b o x)
theorem pk {M:Model} {A:Around} {E:Value->Shared->Prop} {s:Shared} {pos:Pos} {T:String} {args:List (Bool × Sem Value)} {keywords:List (Option Str × Sem Value)} {Q:Value->Shared->Prop}
  (hplain:args.any (·.1)=false) (hkw:keywords.any (·.1.isNone)=false)
  (h:wpAny M A (evalArgs (.type T) true args keywords) (fun a s₁=>wpAny M A (call (.type T) a.pos a.kw) Q E s₁) E s) :
  wpAny M A (callWith pos (.type T) [] args keywords) Q E s:=by
 unfold callWith
 refine wpAny_bind (wpAny_holding (wpAny_mono h (fun a s₁ h₁=>wpAny_bind (wpAny_standAt ?_)) fun _ _ x=>x))
 simp only[hplain,hkw,Bool.or_false]
 refine wpAny_bind (wpAny_pure ?_)
 exact wpAny_bind (wpAny_mono h₁ (fun r s₂ hr=>wpAny_bind (wpAny_holding (wpAny_point (wpAny_pure hr)))) fun _ _ x=>x)
theorem Ay {M:Model} {A:Around} {env:Env} {E:Value->Shared->Prop} {s:Shared} {x:Str} {p pos:Pos} {args:List Expr} {kws:List Keyword} {Q:Value->Shared->Prop}
  (h:wpAny M A (eval (.Name x p) env) (fun f s₁=>wpAny M A (callWith pos f [] (backTo pos (starEach args env)) (backToKw pos (keywordEach kws env))) Q E s₁) E s)
  (hc:eval (.Call (.Name x p) args kws pos) env=(do callWith pos (← eval (.Name x p) env) [] (backTo pos (starEach args env)) (backToKw pos (keywordEach kws env))):=by rfl):wpAny M A (eval (.Call (.Name x p) args kws pos) env) Q E s:=by
 rw[hc]
 exact wpAny_bind h
noncomputable def A6 (K:PySem.W.Frag) (tl:TE):TI:=fun σ H R=>tl σ H fun x H1=>∃a,x=.ref a/\(∃xs,SqL K H1 a xs)/\R (Ies K a) H1
theorem vO {X:Cx} {elts:List Expr} {kt:Nat} {tp p pos kp cp:Pos} {j:Nat} {l:Expr} {tl:TE} (hg:Gl X "enumerate") (hm:X.mg "enumerate" = none) (hl:PE X l tl) (hs:starEach [l] X.env=[(false,eval l X.env)]:=by rfl) :
  PI X (.Tuple elts kt tp) (.Call (.Name "enumerate" p) [l] [⟨some "start", .Constant (.int 1) j cp,kp⟩] pos) (A6 X.K tl):=by
 intro pins s σ H R I h
 have h':zN tl BX σ H (fun vs H1=>match vs with
  | [x]=>∃a,x=.ref a/\(∃xs,SqL X.K H1 a xs)/\R (Ies X.K a) H1
  | _=>False):=h
 refine Ay (kL I hg hm PyProof.Rows.boot_enumerate (pk (by rw[hs];rfl) rfl ?_))
 have pa:=cU hl gw hs pos pins s σ H _ I h'
 rw[hs] at pa ⊢
 refine evalArgs_kwB rfl (thn pa fun us s1 ⟨vs,H1,I1,r1,q1⟩=>?_)
 refine kws_cons (wpAny_Constant_int ?_)
 refine kws_nil ?_
 cases r1 with
 | nil=>exact q1.elim
 | cons r rr=>
  cases rr with
  | cons _ _=>exact q1.elim
  | nil=>
   obtain⟨a,rfl,⟨xs,hq⟩,q⟩:=q1
   cases r
   have I2:=I1.tok (s1.toks+1)
   have fp:∀{h':Heap},∀b∈[s1.heap.objs.size+1,s1.heap.objs.size],lr X pins H1 b:=fun{h'} b hb=>by
    have hb':s1.heap.objs.size<=b:=by
     rcases List.mem_cons.mp hb with z | hb
     ·omega
     ·have:=List.mem_singleton.mp hb;omega
    exact I1.wB hb' (I1.hok.fresh hb')
   obtain⟨its,rv,pl,hz⟩:=I2.list hq
   refine xC (s:={ s1 with toks:=s1.toks+1 }) pl.isList fun h2 z1 z2 hsz kp=>wpAny_pyIter_enum (s:={ s1 with heap:=h2,toks:=s1.toks+1 }) z1 ?_
   exact⟨s1.heap.objs.size+1,[s1.heap.objs.size+1,s1.heap.objs.size],_,_,H1,rfl,I2.kept (t':=s1.toks+1) kp,qM (a:=a) (Nat.succ_ne_self _),⟨⟨_,z1⟩,z2⟩,fp (h':=h2),q⟩
end L2
namespace L2.FE
open PySem PySem.Spec PyProof.Rows
noncomputable def jd (ds:List D):List D:=(List.range ds.length).map fun(i:Nat)=>D.tup [.int ((i+1:Nat):Int),ds.getD i .non]
noncomputable def nh (a:ME):MI:=fun env h=>(a env h).bind fun d h1=>match d with
 | .frl ds=>.ok (.snap (jd ds)) h1
 | _=>.bad
theorem lH {ds:List D} {i:Nat}:(jd ds)[i]?=(ds[i]?).map fun d=>D.tup [.int ((i+1:Nat):Int),d]:=by
 unfold jd
 rw[List.getElem?_map]
 by_cases hi:i<ds.length
 ·have e:ds.getD i .non=ds[i]:=by rw[List.getD_eq_getElem?_getD,List.getElem?_eq_getElem hi];rfl
  rw[List.getElem?_range hi,List.getElem?_eq_getElem hi,Option.map_some,Option.map_some,e]
 ·rw[List.getElem?_eq_none (by simpa using hi),List.getElem?_eq_none (by omega)];rfl
section
variable {X:Cx} {g:GG} {ε:EE}
theorem pD {K:PySem.W.Frag} {α:List Addr} {H:Hp} {a:Addr} {ds:List D} {vs:List V} (hq:Fro K H a vs) (rs:ao K g α H ds vs):Reads K g (Ies K a) (Src.snap (jd ds)).rdr α H:=by
 intro α2 H2 h2 x2 hr i
 have hq2:SqL K H2 a vs:=(x2.fro _ _ hq).sq
 have rs2:=rs.ext x2
 show match some (jd ds)[i]? with | none=>True | some none=>_ | some (some d)=>_
 rw[lH]
 cases e:ds[i]? with
 | none=>
  have:ds.length<=i:=List.getElem?_eq_none_iff.mp e
  exact⟨vs,hq2,by rw[<- rs.length];exact this⟩
 | some d=>
  obtain⟨v,ev,rv⟩:=rs2.get e
  refine⟨⟨vs,v,hq2,ev⟩,fun x H' y=>?_⟩
  obtain⟨p,v',e1,hp,e2,e3⟩:=y
  subst e1 e3
  have:=e2 vs hq2
  rw[ev] at this
  cases this
  exact⟨α2,Ext.fresh hp,hr.grow hp,.tup aJ (.cons (.int _) (.cons (rv.ext (Ext.fresh hp)) .nil))⟩
theorem vq {elts:List Expr} {kt j:Nat} {tp p pos kp cp:Pos} {e:Expr} {me:ME} (hg:Gl X "enumerate") (hm:X.mg "enumerate" = none) (he:PE X e (tM X.K g ε me)) (hs:starEach [e] X.env=[(false,eval e X.env)]:=by rfl):PI X (.Tuple elts kt tp) (.Call (.Name "enumerate" p) [e] [⟨some "start", .Constant (.int 1) j cp,kp⟩] pos) (tMI X.K g ε (nh me)):=
 PI.imp (vO hg hm he hs) fun σ H T ⟨α,env,h,s,w⟩=>tM.use s w.bind fun d1 h1 v1 H1 α1 e1 s1 r1 w1=>by
  cases r1 with
  | frl hq rs=>exact⟨_,rfl,⟨_,hq.sq⟩,w1 _ H1 α1 e1 s1.heap (pD hq.fro rs)⟩
  | _=>exact w1.elim
end
end L2.FE
namespace L2
open PySem PySem.Spec PyProof.Rows
noncomputable def Itx (z:Str):It:=⟨fun i _=>i<z.cps.size,fun i H x H'=>H'=H/\∃c,z.cps[i]?=some c/\x=.str ⟨#[c]⟩,fun i _=>z.cps.size<=i⟩
theorem wu {P:Program} {w:World} {K:PySem.W.Frag} {tg:Expr} (z:Str) (t:Tok) (it:Addr):Turn P w K tg (Itx z) [it] it (fun i h=>h.IsStrIter it "str_ascii_iterator" z t i) where
 mem:=by simp
 obj:=fun i h st b hb=>by
  have e:b=it:=by simpa using hb
  subst e
  obtain⟨o,e,c,d⟩:=st
  exact⟨o,e,fun v z=>by rw[d] at z;cases z⟩
 keep:=fun i h h' st k=>let ⟨o,e,r⟩:=st;⟨o,k it (by simp) o e,r⟩
 item:=by
  intro X hP hw hK hc i pins s σ H E I hf st hg
  subst hP hw hK
  have hi:i<z.cps.size:=hg
  obtain⟨f0,f1,f2,f3,f4,f5⟩:=hf it (by simp)
  refine wpAny_pyNext_ascii_item st (c:=z.cps[i]) (by simp[hi]) fun h' st' sb=>?_
  have I1:Inv X pins σ H { s with heap:=h',toks:=s.toks+1 }:=I.turned (t':=s.toks+1) (fun b o hb e=>sb.extBut b o hb e) f0 f1 f3 f4 f5
  obtain⟨o,e,c,d⟩:=id st'
  exact⟨_,rfl,rX (s:={ s with heap:=h',toks:=s.toks+1 }) e c d (by decide) ⟨.str ⟨#[z.cps[i]]⟩,H,I1,⟨_,rfl⟩,⟨rfl,_,by simp[hi],rfl⟩,st',fun b hb=>(hf b hb).1⟩⟩
 done:=by
  intro X hP hw hK hc i pins s σ H E I hf st hg
  subst hP hw hK
  have hi:z.cps.size<=i:=hg
  obtain⟨f0,f1,f2,f3,f4,f5⟩:=hf it (by simp)
  exact wpAny_pyNext_ascii_end (I.ok.hd hc) st (by simp;omega) fun h' eb=>⟨rfl,I.turned (t':=s.toks) (fun b o hb e=>eb b o hb e) f0 f1 f3 f4 f5⟩
 self:=fun _ _ _ _ _ st h=>wpAny_pyIter_striter_ascii st h
section
variable {X:Cx} {tg:Expr}
noncomputable def D3 (tl:TE):TI:=fun σ H R=>tl σ H fun x H1=>∃z,x=.str z/\z.cps.all (· < 128)=true/\R (Itx z) H1
theorem Bs {l:Expr} {tl:TE} (hl:PE X l tl):PI X tg l (D3 tl):=by
 intro pins s σ H R I h
 refine thn (hl pins s σ H _ I h) fun v s1 ⟨x,H1,I1,r1,q1⟩=>?_
 obtain⟨z,e,ha,q⟩:=q1
 subst e
 obtain⟨t,rfl⟩:=r1
 refine wpAny_pyIter_ascii ha ?_
 refine⟨s1.heap.objs.size,[s1.heap.objs.size],_,_,H1,rfl,I1.kept (t':=s1.toks) fun b o e=>Heap.get?_push_of_some _ e,wu z t _,⟨_,Heap.get?_push_size _ rfl,rfl,rfl⟩,fun b hb=>?_,q⟩
 have e:b=s1.heap.objs.size:=by simpa using hb
 subst e
 exact I1.wB (Nat.le_refl _) (I1.hok.fresh (Nat.le_refl _))
end
end L2
namespace L2.FE
open PySem PySem.Spec PyProof.Rows
section
variable {X:Cx} {g:GG} {ε:EE}
noncomputable def km (z:Str):List D:=z.cps.toList.map fun c=>D.str ⟨#[c]⟩
noncomputable def uv (a:ME):MI:=fun env h=>(a env h).bind fun d h1=>match d with
 | .str z=>if z.cps.all (· < 128)=true then .ok (.snap (km z)) h1 else .bad
 | _=>.bad
theorem ua {K:PySem.W.Frag} {α:List Addr} {H:Hp} (z:Str):Reads K g (Itx z) (Src.snap (km z)).rdr α H:=by
 intro α2 H2 h2 x2 hr i
 show match some (km z)[i]? with | none=>True | some none=>_ | some (some d)=>_
 have e0:(km z)[i]?=(z.cps[i]?).map fun c=>D.str ⟨#[c]⟩:=by
  unfold km;rw[List.getElem?_map,Array.getElem?_toList]
 rw[e0]
 cases e:z.cps[i]? with
 | none=>exact Array.getElem?_eq_none_iff.mp e
 | some c=>
  refine⟨(Array.getElem?_eq_some_iff.mp e).1,fun x H' y=>?_⟩
  obtain⟨e1,c',e2,e3⟩:=y
  subst e1 e3
  rw[e] at e2
  cases e2
  exact⟨α2,Ext.refl,hr,.str _⟩
theorem Aw {tg e:Expr} {me:ME} (he:PE X e (tM X.K g ε me)):PI X tg e (tMI X.K g ε (uv me)):=
 PI.imp (Bs he) fun σ H T ⟨α,env,h,s,w⟩=>tM.use s w.bind fun d1 h1 v1 H1 α1 e1 s1 r1 w1=>by
  cases r1 with
  | str z=>
   obtain⟨hb,w1⟩:=WQ.bI w1
   exact⟨z,rfl,hb,w1 _ H1 α1 e1 s1.heap (ua z)⟩
  | _=>exact w1.elim
noncomputable def rU:V->V->Hp->VK->Prop:=fun x y H Q=>∃a b,x=.str a/\y=.str b/\Q (.bl (!Txt.contains b a)) H
theorem tQ:OpR X (compareOp .NotIn) rU:=by
 intro pins s σ H x y v u Q I rx ry h
 obtain⟨a,b,rfl,rfl,q⟩:=h
 obtain⟨t,rfl⟩:=rx
 obtain⟨t',rfl⟩:=ry
 exact SB.notContains ⟨.bl _,H,I,rfl,q⟩
noncomputable def hG:D->D->Hh->R D:=fun x y h=>match x,y with
 | .str a,.str b=>.ok (.bl (!Txt.contains b a)) h
 | _,_=>.bad
theorem t_ {K:PySem.W.Frag}:cG K g ε hG rU:=by
 intro α H h a b x y Q r ra rb w
 unfold hG at w
 split at w
 ·cases ra
  cases rb
  exact⟨_,_,rfl,rfl,aB.now w r (.bl _)⟩
 ·exact w.elim
instance (x:Str) (n:Int):Decidable (MulOk x n):=by unfold MulOk;infer_instance
noncomputable def zA:V->V->Hp->VK->Prop:=fun x y H Q=>∃a n,x=.str a/\y=.int n/\MulOk a n/\Q (.str (Txt.mul a n)) H
theorem mQ:OpR X (binaryOp .Mult) zA:=by
 intro pins s σ H x y v u Q I rx ry h
 obtain⟨a,n,rfl,rfl,hok,q⟩:=h
 obtain⟨t,rfl⟩:=rx
 obtain⟨t',rfl⟩:=ry
 exact SB.mul hok fun t' k=>⟨.str _,H,I.tok _,⟨_,rfl⟩,q⟩
noncomputable def dX:D->D->Hh->R D:=fun x y h=>match x,y with
 | .str a,.int n=>if MulOk a n then .ok (.str (Txt.mul a n)) h else .bad
 | _,_=>.bad
theorem nO {K:PySem.W.Frag}:cG K g ε dX zA:=by
 intro α H h a b x y Q r ra rb w
 unfold dX at w
 split at w
 ·obtain⟨hl,w⟩:=WQ.bI w
  cases ra
  cases rb
  exact⟨_,_,rfl,rfl,hl,aB.now w r (.str _)⟩
 ·exact w.elim
end
end L2.FE
namespace FC
open PySem L2 L2.FE
noncomputable def bh:MF:=cI 2 (aF (dC (aK asB (aq dLt (ag 1) (ah bC (aa (ag 0) ai)))) (bD (aq dIx (ag 0) (ag 1))) b8)
  (bD (cC (.int 0))))
noncomputable def bA:MF:=cI 2 (aF (bB 1 (ah xl (aa (ag 0) (aa (aq ub (cC (.int 0)) (ag 0)) ai))))
  (bD (ah (bg dO) (aa (ag 1) (aa (ah wj (aa (aq dGe (ag 1) (aq yZ (cC (.int 10)) (cC (.int 18)))) ai)) (aa (aq pT (ag 1) (cC (.int 1000003))) ai))))))
noncomputable def cx:MF:=cI 1 (aF (bB 0 (aq pT (aq (aL au) (ag 0) (cC (.int 7919))) (cC (.int 2147483647))))
  (bD (aq pT (aq (aL au) (aq (aL au) (aq (ff au) (ag 0) (ag 0)) (aq (ff au) (cC (.int 48271)) (ag 0))) (cC (.int 12345))) (cC (.int 2147483629)))))
noncomputable def az:MF:=cI 3 (aF (dC (ou (aK asB (aq dEq (aq dIx (ag 0) (cC (.int 1))) (cC (.int 1)))) (aK asB (aq dGt (aq dIx (ag 0) (cC (.int 0))) (cC (.int 0))))) (aF (bB 2 (aq pT (aq dIx (ag 0) (cC (.int 0))) (ag 1)))
  (aF (nj iP (ag 0) (cC (.int 0)) (aq v7 (aq dIx (ag 0) (cC (.int 0))) (ag 1)))
  (bD (ag 2)))) b8)
  (aF (nj iP (ag 0) (cC (.int 2)) (ah cx (aa (aq (aL au) (ah cx (aa (aq dIx (ag 0) (cC (.int 2))) ai)) (cC (.int 7))) ai)))
  (bD (aq pT (aq v7 (aq dIx (ag 0) (cC (.int 2))) (cC (.int 64))) (ag 1)))))
noncomputable def bx:MF:=cI 1 (bD (aT bM (cC (.str " ")) (aa (ck au (cB (ag 0)) [] tt1 (ah gc (aa (ag 0) ai))) ai)))
noncomputable def bc:MF:=fun ds h=>((cI 3 (aF (bB 2 (ah (iA dO) (aa (ag 1) ai)))
  (bD (ah eN (aa (ck au (gu eW (aa (ag 1) ai)) [2,0] tt1 (bo o_ (ag 1) (aa (ah az (aa (ag 2) (aa (ah bC (aa (ag 1) ai)) ai))) ai))) ai))))) ds h).bind (bZ h)
noncomputable def dz:MF:=cI 2 (aF (bB 1 (ah (bg au) (aa (cUn (ng "NoOrder") (ag 0)) (aa (cUn (ng "NoNumber") (ag 0)) (aa (cUn (ng "NoSet") (ag 0)) (aa (cUn (ng "NoRow") (ag 0)) ai))))))
  (aF (bB 1 (aq (aL au) (ag 1) (ah (bg au) (aa (cUn (ng "NoLine") (ag 0)) (aa (cUn (ng "NoText") (ag 0)) (aa (cUn (ng "TooGreat") (ag 0)) ai))))))
  (aF (dC (g8 (dk (aK hZ (cUn Aj (ag 0)))) (aK asB (aq dNe (bo mL (ag 1) (aa (cC (.bl true)) ai)) (cC (.int 1))))) (bD (cC (.str "other"))) b8)
  (bD (aq dIx (ah (bg au) (aa (cC (.str "order")) (aa (cC (.str "number")) (aa (cC (.str "set")) (aa (cC (.str "row")) (aa (cC (.str "line")) (aa (cC (.str "text")) (aa (cC (.str "great")) ai)))))))) (bo nR (ag 1) (aa (cC (.bl true)) ai)))))))
noncomputable def a_:MF:=cI 2 (aF (bB 1 (ah dz (aa (ag 0) ai)))
  (aF (dC (aK asB (aq dEq (ag 1) (cC (.str "text")))) (bD (ah eV (aa (ag 1) (aa (cUn (yr "NoText" "row") (ag 0)) ai)))) b8)
  (bD (cIf (aK asB (aq dEq (ag 1) (cC (.str "great")))) (ah eV (aa (ag 1) (aa (fun _ _=>.bad) (aa (fun _ _=>.bad) ai)))) (ah eV (aa (ag 1) ai))))))
noncomputable def aN:MF:=cI 1 (aF (dC (g8 (dk (aK hZ (jG (nZ Txt.isascii) (ag 0)))) (g8 (dk (aK hZ (jG (nZ Txt.isdigit) (ag 0)))) (aK asB (aq dGt (ah bC (aa (ag 0) ai)) (cC (.int 20)))))) (bD (cC .non)) b8)
  (aF (dC (ou (aK asB (aq dEq (aq k8 (ag 0) (cC (.int 0))) (cC (.str "0")))) (aK asB (aq dGt (ah bC (aa (ag 0) ai)) (cC (.int 1))))) (bD (cC .non)) b8)
  (bD (ah lK (aa (ag 0) ai)))))
noncomputable def dJ:MF:=cI 1 (bD (rT (cUn (fZ "int") (ag 0)) (vT (cUn (fZ "bool") (ag 0)))))
noncomputable def cb:MF:=cI 3 (bD (rT (ah dJ (aa (ag 0) ai)) (fe dLe dLe (ag 1) (ag 0) (ag 2))))
noncomputable def bJ:MF:=fun ds h=>((cI 2 (aF (dC (g8 (dk (aK hZ (cUn (fZ "tuple") (ag 0)))) (dk (aK asB (fe dLe dLe (cC (.int 1)) (ah bC (aa (ag 0) ai)) (cC (.int 20)))))) (bD (cC (.bl false))) b8)
  (aF (dN (cB (ag 0)) (gN 1) (dC (dk (aK hZ (ah cb (aa (ag 1) (aa (cC (.int 0)) (aa (aq ub (ah bC (aa (ag 0) ai)) (cC (.int 1))) ai)))))) (bD (cC (.bl false))) b8))
  (bD (aq dEq (ah bC (aa (ah oO (aa (ag 0) ai)) ai)) (ah bC (aa (ag 0) ai))))))) ds h).bind (bZ h)
noncomputable def aU:MF:=fun ds h=>((cI 5 (aF (dC (up (dk (aK hZ (cUn (fZ "str") (ag 0))))) (dW "NoText" ["row"] (aa (up (cC (.int 0))) ai)) b8)
  (aF (up (bB 1 (ah (bg dO) ai)))
  (aF (dN (nh (up (aT (cz au) (ag 0) (aa (cC (.str "\n")) ai)))) (gT2 2 3) (aF (up (bB 4 (ah eN (aa (ck au (cB (aT (cz au) (ag 3) (aa (cC (.str " ")) ai))) [] tt1 (ah aN (aa (ag 0) ai))) ai))))
  (aF (dC (up (g8 (aK asB (aq dGt (ag 2) (cC (.int 20)))) (dk (aK hZ (ah bJ (aa (ag 4) ai)))))) (dW "NoText" ["row"] (aa (up (ag 2)) ai)) b8)
  (up (dm (bo bb (ag 1) (aa (ag 4) ai)))))))
  (up (bD (ag 1))))))) ds h).bind (bZ h)
noncomputable def bw:MF:=cI 2 (ku (bD (ah aU (aa (up (ag 0)) ai))) a_)
noncomputable def aO:MF:=cI 1 (aF (dC (g8 (dk (aK asB (fe dLe dLe (cC (.int 1)) (ah bC (aa (ag 0) ai)) (cC (.int 20))))) (aK asB (aq dNe (ck au (uv (ag 0)) [] (aK asB (aq hG (ag 0) (cC (.str "0123456789")))) (ag 0)) (ah (bg au) ai)))) (bD (cC .non)) b8)
  (bD (cIf (ou (aK asB (aq dEq (aq k8 (ag 0) (cC (.int 0))) (cC (.str "0")))) (aK asB (aq dNe (ag 0) (cC (.str "0"))))) (cC .non) (ah lK (aa (ag 0) ai)))))
noncomputable def cO:MF:=fun ds h=>((cI 5 (aF (bB 1 (ah (bg dO) ai))
  (aF (dN (cB (aT (cz au) (ag 0) (aa (cC (.str "\n")) ai))) (gN 2) (aF (bB 3 (ck au (cB (aT (cz au) (ag 2) (aa (cC (.str " ")) ai))) [] tt1 (ah aO (aa (ag 0) ai))))
  (aF (bB 4 (ck au (gu eW (aa (ah bC (aa (ag 3) ai)) ai)) [3] (aK asB (aq (dIn true) (ag 0) (ag 1))) (ag 0)))
  (aF (dC (g8 (aK asB (aq dGt (ah bC (aa (ag 3) ai)) (cC (.int 20)))) (g8 (aK asB (aq dNe (ag 4) (ah (bg au) ai))) (aK asB (aq dEq (ah bC (aa (ag 1) ai)) (cC (.int 20)))))) (bD (ah eV (aa (cC (.str "text")) (aa (aq (aL au) (ah bC (aa (ag 1) ai)) (cC (.int 1))) ai)))) b8)
  (dm (bo bb (ag 1) (aa (ah eN (aa (ag 3) ai)) ai)))))))
  (bD (ag 1))))) ds h).bind (bZ h)
noncomputable def l6:MF:=fun ds h=>((cI 11 (aF (bB 1 (cC (.str "\n !\"#$&'()*+,-./0123456789:;<=>?@ABCDEFGHIJKLMNOPQRSTUVWXYZ[\\]^_`abcdefghijklmnopqrstuvwxyz{|}~")))
  (aF (dN (cB (aq (aL au) (ah (bg au) (aa (ah bh (aa (ag 0) (aa (cC (.int 0)) ai))) ai)) (nS au (ag 0) (cL (cC (.int 1))) (cL (cC (.int 4)))))) (gN 2) (aF (bB 3 (ah bA (aa (ag 2) ai)))
  (aF (bB 4 (ck au (gu eW (aa (aq (aL au) (cC (.int 1)) (ah az (aa (ag 3) (aa (cC (.int 4)) ai)))) ai)) [3] tt1 (ah bx (aa (ah bc (aa (ag 1) (aa (aq (aL au) (cC (.int 1)) (ah az (aa (ag 1) (aa (cC (.int 12)) ai)))) ai))) ai))))
  (aF (bB 5 (aT bM (cC (.str "\n")) (aa (ag 4) ai)))
  (aF (bB 6 (ah (bg dO) (aa (ag 5) (aa (aq (aL au) (ag 5) (cC (.str "\n"))) (aa (aq (aL au) (cC (.str "\n")) (ag 5)) (aa (aq (aL au) (ag 5) (cC (.str " "))) (aa (aq (aL au) (cC (.str " ")) (ag 5)) (aa (cC (.str "")) (aa (cC (.str " ")) (aa (cC (.str "0")) (aa (cC (.str "1 0")) (aa (cC (.str "00")) (aa (cC (.str "0 01")) (aa (cC (.str "1")) (aa (cC (.str "0 0")) ai)))))))))))))))
  (aF (bB 6 (aq (aL dO) (ag 6) (ah (bg au) (aa (aT bM (cC (.str "\n")) (aa (aq (ff au) (ah (bg au) (aa (cC (.str "0")) ai)) (cC (.int 20))) ai)) (aa (aT bM (cC (.str "\n")) (aa (aq (ff au) (ah (bg au) (aa (cC (.str "0")) ai)) (cC (.int 21))) ai)) (aa (aT bM (cC (.str "\n")) (aa (aq (aL au) (aq (ff au) (ah (bg au) (aa (cC (.str "0")) ai)) (cC (.int 20))) (ah (bg au) (aa (cC (.str "1")) ai))) ai)) (aa (aq (aL au) (cC (.str "0 ")) (aq dX (cC (.str "1")) (cC (.int 20)))) ai)))))))
  (aF (bB 6 (aq (aL dO) (ag 6) (ah (bg au) (aa (aq (aL au) (cC (.str "0 ")) (aq dX (cC (.str "1")) (cC (.int 21)))) (aa (aq dX (cC (.str "1")) (cC (.int 21))) (aa (cC (.str "+0")) (aa (cC (.str "-0")) (aa (cC (.str "0.")) (aa (cC (.str "0,1")) (aa (cC (.str "1 0\n\n0")) (aa (cC (.str "1_0 0")) (aa (cC (.str "0\n1 0\n2 0")) ai))))))))))))
  (aF (dm (bo bb (ag 6) (aa (aT bM (cC (.str " ")) (aa (ck au (gu eW (aa (cC (.int 21)) ai)) [] tt1 (ah gc (aa (ag 0) ai))) ai)) ai)))
  (aF (dN (gu eW (aa (cC (.int 6)) ai)) (gN 7) (aF (uu 8 9 (aa (ah az (aa (ag 3) (aa (aq (aL au) (ah bC (aa (ag 5) ai)) (cC (.int 1))) ai))) (aa (aq k8 (ag 1) (ah az (aa (ag 3) (aa (ah bC (aa (ag 1) ai)) ai)))) ai)))
  (aF (dm (bo bb (ag 6) (aa (aq (aL au) (aq (aL au) (bV (ag 5) bX (cL (ag 8))) (ag 9)) (bV (ag 5) (cL (ag 8)) bX)) ai)))
  (aF (dm (bo bb (ag 6) (aa (aq (aL au) (aq (aL au) (bV (ag 5) bX (cL (ag 8))) (ag 9)) (bV (ag 5) (cL (aq (aL au) (ag 8) (cC (.int 1)))) bX)) ai)))
  (dm (bo bb (ag 6) (aa (aq (aL au) (bV (ag 5) bX (cL (ag 8))) (bV (ag 5) (cL (aq (aL au) (ag 8) (cC (.int 1)))) bX)) ai)))))))
  (aF (dN (cB (ag 6)) (gN 10) (dC (aK asB (aq dNe (ah ek (aa (ah bw (aa (ag 10) ai)) ai)) (ah ek (aa (ah cO (aa (ag 10) ai)) ai)))) (bD (cC (.bl false))) b8))
  (dN (cB (ah eV (aa (cC .non) (aa (cC (.int 0)) (aa (cC (.bl true)) (aa (ah eV (aa (cC (.int 0)) ai)) (aa (ah (bg au) (aa (cC (.str "0")) ai)) (aa (cC .edic) (aa (ah (bg au) ai) (aa (ah eV (aa (cC (.str "0")) ai)) ai)))))))))) (gN 10) (dC (aK asB (aq dNe (ah bw (aa (ag 10) ai)) (ah eV (aa (cC (.str "text")) (aa (cC (.int 0)) ai))))) (bD (cC (.bl false))) b8))))))))))))
  (bD (cC (.bl true)))))) ds h).bind (bZ h)
noncomputable def aQ (i:Nat):Stmt:=PySem.Challenge.pw_fallcounts_k92_texts_that_write_none.main.body.getD i (.Pass ⟨0,0,0,0⟩)
structure Blt (mg:Str->Option Value):Prop where
 ValueError:mg "ValueError" = none
 bool:mg "bool" = none
 enumerate:mg "enumerate" = none
 int:mg "int" = none
 isinstance:mg "isinstance" = none
 len:mg "len" = none
 list:mg "list" = none
 max:mg "max" = none
 range:mg "range" = none
 repr:mg "repr" = none
 set:mg "set" = none
 str:mg "str" = none
 tuple:mg "tuple" = none
section
variable {P:Program} {w:World} {K:PySem.W.Frag} {mg:Str->Option Value} {base:Heap} {g:GG}
theorem jD:aP ["_law_script", "_law_k"] ["_law_script", "_law_k"] (aj (aQ 21)):=⟨rfl,rfl,rfl,by decide +kernel,rfl,by decide +kernel,by decide +kernel⟩
theorem iO (D:aY K mg "_law_cell_at" (aQ 21)) (T:Blt mg):Has P w K mg base g "_law_cell_at" 1 ["_law_script", "_law_k"] bh:=by
 obtain⟨f,fd,hm,F⟩:=D
 refine⟨f,fd,gM F jD (fun cdv A outer s H E hr=>?_),F.kp,F.binds (fun _ _ _ _ _ _ us hl=>x9 hl fun _ _=>rfl),hm,bK F⟩
 exact(@aA _ _ _ _ _ _ _ (@g7 _ _ _ _ _ _ _ _ _ _ (@bE _ _ _ _ _ _ _ _ _ _ _ C3 CK (af 1) (aX cu cw rfl T.len PySem.boot_len (@ae _ _ _ _ _ _ _ (af 0) ak rfl)) (bG _)) (@aG _ _ _ _ _ (@bu _ _ _ _ _ _ (@eZ _ _ _ _ _ _ _ _ _ _ dw i7 (af 0) (af 1) (fun _ _=>rfl)))) bW)
   (@aG _ _ _ _ _ (@bu _ _ _ _ _ _ ax)))
theorem fu:aP ["_law_cell", "_law_left"] ["_law_cell"] (aj (aQ 23)):=⟨rfl,rfl,rfl,by decide +kernel,rfl,by decide +kernel,by decide +kernel⟩
theorem jr (D:aY K mg "_law_pen_of" (aQ 23)) (T:Blt mg):Has P w K mg base g "_law_pen_of" 1 ["_law_cell"] bA:=by
 obtain⟨f,fd,hm,F⟩:=D
 refine⟨f,fd,gM F fu (fun cdv A outer s H E hr=>?_),F.kp,F.binds (fun _ _ _ _ _ _ us hl=>ir hl fun _=>rfl),hm,bK F⟩
 exact(@aA _ _ _ _ _ _ _ (@cX _ _ _ _ _ _ 1 _ _ fu.nd rfl (by first | exact Or.inl rfl | exact Or.inr rfl) (aX (tZ rfl) yM rfl T.max PyProof.Rows.boot_max (@ae _ _ _ _ _ _ _ (af 0) (@ae _ _ _ _ _ _ _ (@aE _ _ _ _ _ _ _ _ _ _ _ vK wY ax (af 0)) ak rfl) rfl)) rfl (.inl rfl))
   (@aG _ _ _ _ _ (@bu _ _ _ _ _ _ (@bS _ _ _ _ _ _ _ _ (@ae _ _ _ _ _ _ _ (af 1) (@ae _ _ _ _ _ _ _ (cg tW zW rfl T.int PyProof.Rows.boot_int (@ae _ _ _ _ _ _ _ (@vf _ _ _ _ _ _ _ _ _ _ _ Dp Dy (af 1) (@aE _ _ _ _ _ _ _ _ _ _ _ xN BF ax ax) (bG _)) ak rfl)) (@ae _ _ _ _ _ _ _ (@aE _ _ _ _ _ _ _ _ _ _ _ jU jR (af 1) ax) ak rfl) rfl) rfl)))))
theorem hJ:aP ["_law_seed"] ["_law_seed"] (aj (aQ 22)):=⟨rfl,rfl,rfl,by decide +kernel,rfl,by decide +kernel,by decide +kernel⟩
theorem kS (D:aY K mg "_law_next" (aQ 22)) (T:Blt mg):Has P w K mg base g "_law_next" 1 ["_law_seed"] cx:=by
 obtain⟨f,fd,hm,F⟩:=D
 refine⟨f,fd,gM F hJ (fun cdv A outer s H E hr=>?_),F.kp,F.binds (fun _ _ _ _ _ _ us hl=>ir hl fun _=>rfl),hm,bK F⟩
 exact(@aA _ _ _ _ _ _ _ (@cX _ _ _ _ _ _ 0 _ _ hJ.nd rfl (by first | exact Or.inl rfl | exact Or.inr rfl) (@aE _ _ _ _ _ _ _ _ _ _ _ jU jR (@aE _ _ _ _ _ _ _ _ _ _ _ ba a9 (af 0) ax) ax) rfl (.inl rfl))
   (@aG _ _ _ _ _ (@bu _ _ _ _ _ _ (@aE _ _ _ _ _ _ _ _ _ _ _ jU jR (@aE _ _ _ _ _ _ _ _ _ _ _ ba a9 (@aE _ _ _ _ _ _ _ _ _ _ _ ba a9 (@aE _ _ _ _ _ _ _ _ _ _ _ jY kn (af 0) (af 0)) (@aE _ _ _ _ _ _ _ _ _ _ _ jY kn ax (af 0))) ax) ax))))
theorem hV:aP ["_law_pen", "_law_many", "_law_found"] ["_law_pen", "_law_many"] (aj (aQ 24)):=⟨rfl,rfl,rfl,by decide +kernel,rfl,by decide +kernel,by decide +kernel⟩
theorem lj (D:aY K mg "_law_draw" (aQ 24)) (T:Blt mg) (dY:Has P w K mg base g "_law_next" 1 ["_law_seed"] cx):Has P w K mg base g "_law_draw" 2 ["_law_pen", "_law_many"] az:=by
 obtain⟨f,fd,hm,F⟩:=D
 obtain⟨xq,uH,f6,gj,f7,gb,_⟩:=dY
 refine⟨f,fd,gM F hV (fun cdv A outer s H E hr=>?_),F.kp,F.binds (fun _ _ _ _ _ _ us hl=>x9 hl fun _ _=>rfl),hm,bK F⟩
 exact(@aA _ _ _ _ _ _ _ (@g7 _ _ _ _ _ _ _ _ _ _ (PW.pt (@qT _ _ _ _ _ _ _ _ _ (@bE _ _ _ _ _ _ _ _ _ _ _ (gv hr.units) kE (@eZ _ _ _ _ _ _ _ _ _ _ dw i7 (af 0) ax (fun _ _=>rfl)) ax (bG _)) (@nE _ _ _ _ _ _ (@bE _ _ _ _ _ _ _ _ _ _ _ pZ oW (@eZ _ _ _ _ _ _ _ _ _ _ dw i7 (af 0) ax (fun _ _=>rfl)) ax (bG _))))) (@aA _ _ _ _ _ _ _ (@cX _ _ _ _ _ _ 2 _ _ hV.nd rfl (by first | exact Or.inl rfl | exact Or.inr rfl) (@aE _ _ _ _ _ _ _ _ _ _ _ jU jR (@eZ _ _ _ _ _ _ _ _ _ _ dw i7 (af 0) ax (fun _ _=>rfl)) (af 1)) rfl (.inl rfl))
   (@aA _ _ _ _ _ _ _ (r8 (@aE _ _ _ _ _ _ _ _ _ _ _ pX vU (@eZ _ _ _ _ _ _ _ _ _ _ dw i7 (af 0) ax (fun _ _=>rfl)) (af 1)) (af 0) ax set_list oF)
   (@aG _ _ _ _ _ (@bu _ _ _ _ _ _ (af 2))))) bW)
   (@aA _ _ _ _ _ _ _ (r8 (bf (f6.mono (by decide)) hr rfl gb gj f7 (@ae _ _ _ _ _ _ _ (@aE _ _ _ _ _ _ _ _ _ _ _ ba a9 (bf (f6.mono (by decide)) hr rfl gb gj f7 (@ae _ _ _ _ _ _ _ (@eZ _ _ _ _ _ _ _ _ _ _ dw i7 (af 0) ax (fun _ _=>rfl)) ak rfl) (aD a8)) ax) ak rfl) (aD a8)) (af 0) ax set_list oF)
   (@aG _ _ _ _ _ (@bu _ _ _ _ _ _ (@aE _ _ _ _ _ _ _ _ _ _ _ jU jR (@aE _ _ _ _ _ _ _ _ _ _ _ pX vU (@eZ _ _ _ _ _ _ _ _ _ _ dw i7 (af 0) ax (fun _ _=>rfl)) ax) (af 1))))))
theorem n9:aP ["_law_order_here"] ["_law_order_here"] (aj (aQ 31)):=⟨rfl,rfl,rfl,by decide +kernel,rfl,by decide +kernel,by decide +kernel⟩
theorem k4 (D:aY K mg "_law_text" (aQ 31)) (T:Blt mg):Has P w K mg base g "_law_text" 1 ["_law_order_here"] bx:=by
 obtain⟨f,fd,hm,F⟩:=D
 refine⟨f,fd,gM F n9 (fun cdv A outer s H E hr=>?_),F.kp,F.binds (fun _ _ _ _ _ _ us hl=>ir hl fun _=>rfl),hm,bK F⟩
 exact(@aG _ _ _ _ _ (@bu _ _ _ _ _ _ (@iT _ _ _ _ _ _ _ _ _ _ _ _ _ _ PySem.F.slot_str_join PySem.F.type_str_join fN fT aw (@ae _ _ _ _ _ _ _ (eF (osc:=aj (aQ 31)) [] ["_law_number_here"] rfl rfl rfl rfl (by decide +kernel) ⟨by decide +kernel,by decide +kernel,rfl,by decide +kernel,rfl,by decide +kernel⟩ (@fw _ _ _ _ _ _ (af 0))
    (fun cl C aH aS fp=>ip) (fun cl C aH aS fp=>(cg lW rA rfl T.str rfl (@ae _ _ _ _ _ _ _ (af 0) ak rfl)))) ak rfl) (by rfl) (by rfl) (by rfl) (by rfl) (by rfl))))
theorem gf:aP ["_law_pen", "_law_n", "_law_left"] ["_law_pen", "_law_n"] (aj (aQ 27)):=⟨rfl,rfl,rfl,by decide +kernel,rfl,by decide +kernel,by decide +kernel⟩
theorem j3 (D:aY K mg "_law_order" (aQ 27)) (T:Blt mg) (bP:Has P w K mg base g "_law_draw" 2 ["_law_pen", "_law_many"] az):Has P w K mg base g "_law_order" 3 ["_law_pen", "_law_n"] bc:=by
 obtain⟨f,fd,hm,F⟩:=D
 obtain⟨ly,j5,bO,bR,bN,bQ,_⟩:=bP
 refine⟨f,fd,gY (gM F gf (fun cdv A outer s H E hr=>?_)),F.kp,F.binds (fun _ _ _ _ _ _ us hl=>x9 hl fun _ _=>rfl),hm,bK F⟩
 exact(@aA _ _ _ _ _ _ _ (@cX _ _ _ _ _ _ 2 _ _ gf.nd rfl (by first | exact Or.inl rfl | exact Or.inr rfl) (vL rfl rfl T.list rfl T.range (@ae _ _ _ _ _ _ _ (af 1) ak rfl)) rfl (.inl rfl))
   (@aG _ _ _ _ _ (@bu _ _ _ _ _ _ (cg ey j9 rfl T.tuple PyProof.Rows.boot_tuple (@ae _ _ _ _ _ _ _ (eF (osc:=aj (aQ 27)) [2,0] ["_law_place", "_law_left", "_law_pen"] rfl rfl rfl rfl (by decide +kernel) ⟨by decide +kernel,by decide +kernel,rfl,by decide +kernel,rfl,by decide +kernel⟩ (g9 rfl T.range (@ae _ _ _ _ _ _ _ (af 1) ak rfl))
    (fun cl C aH aS fp=>ip) (fun cl C aH aS fp=>(eR PySem.F.slot_list_pop PySem.F.type_list_pop wC Bl (af 1) (@ae _ _ _ _ _ _ _ (bf (bO.mono (by decide)) hr rfl bQ bR bN (@ae _ _ _ _ _ _ _ (af 2) (@ae _ _ _ _ _ _ _ (aX cu cw rfl T.len PySem.boot_len (@ae _ _ _ _ _ _ _ (af 1) ak rfl)) ak rfl) rfl) (aD (aD a8))) ak rfl)))) ak rfl)))))
theorem df:aP ["_law_e", "_law_marks"] ["_law_e"] (aj (aQ 25)):=⟨rfl,rfl,rfl,by decide +kernel,rfl,by decide +kernel,by decide +kernel⟩
theorem iR (D:aY K mg "_law_kind_of" (aQ 25)) (T:Blt mg) (hgo:g=gOf mg) (CL:mW K mg):yS P w K mg base g "_law_kind_of" 1 ["_law_e"] dz:=by
 obtain⟨f,fd,hm,F⟩:=D
 refine⟨f,fd,zM F df (fun cdv A outer s H E hr=>?_),F.kp,F.binds (fun _ _ _ _ _ _ us hl=>ir hl fun _=>rfl),hm⟩
 exact(@aA _ _ _ _ _ _ _ (@cX _ _ _ _ _ _ 1 _ _ df.nd rfl (by first | exact Or.inl rfl | exact Or.inr rfl) (@bS _ _ _ _ _ _ _ _ (@ae _ _ _ _ _ _ _ (gA CL hgo (af 0) rfl T.isinstance rfl (by decide)) (@ae _ _ _ _ _ _ _ (gA CL hgo (af 0) rfl T.isinstance rfl (by decide)) (@ae _ _ _ _ _ _ _ (gA CL hgo (af 0) rfl T.isinstance rfl (by decide)) (@ae _ _ _ _ _ _ _ (gA CL hgo (af 0) rfl T.isinstance rfl (by decide)) ak rfl) rfl) rfl) rfl)) rfl (.inl rfl))
   (@aA _ _ _ _ _ _ _ (@cX _ _ _ _ _ _ 1 _ _ df.nd rfl (by first | exact Or.inl rfl | exact Or.inr rfl) (@aE _ _ _ _ _ _ _ _ _ _ _ ba a9 (af 1) (@bS _ _ _ _ _ _ _ _ (@ae _ _ _ _ _ _ _ (gA CL hgo (af 0) rfl T.isinstance rfl (by decide)) (@ae _ _ _ _ _ _ _ (gA CL hgo (af 0) rfl T.isinstance rfl (by decide)) (@ae _ _ _ _ _ _ _ (gA CL hgo (af 0) rfl T.isinstance rfl (by decide)) ak rfl) rfl) rfl))) rfl (.inl rfl))
   (@aA _ _ _ _ _ _ _ (@g7 _ _ _ _ _ _ _ _ _ _ (PW.pt (@iX _ _ _ _ _ _ _ _ _ (@eQ _ _ _ _ _ _ (@dM _ _ _ _ _ _ gz (AY CL hgo (af 0) rfl T.isinstance rfl T.ValueError) (fun _=>rfl))) (@iF _ _ _ _ _ _ (@bE _ _ _ _ _ _ _ _ _ _ _ (iS hr.units) l7 (eR PySem.F.slot_list_count PySem.F.type_list_count sU s_ (af 1) (@ae _ _ _ _ _ _ _ jc ak rfl)) ax (bG _))))) (@aG _ _ _ _ _ (@bu _ _ _ _ _ _ aw)) bW)
   (@aG _ _ _ _ _ (@bu _ _ _ _ _ _ (@eZ _ _ _ _ _ _ _ _ _ _ dw i7 (@bS _ _ _ _ _ _ _ _ (@ae _ _ _ _ _ _ _ aw (@ae _ _ _ _ _ _ _ aw (@ae _ _ _ _ _ _ _ aw (@ae _ _ _ _ _ _ _ aw (@ae _ _ _ _ _ _ _ aw (@ae _ _ _ _ _ _ _ aw (@ae _ _ _ _ _ _ _ aw ak rfl) rfl) rfl) rfl) rfl) rfl) rfl)) (eR PySem.F.slot_list_index PySem.F.type_list_index t7 sM (af 1) (@ae _ _ _ _ _ _ _ jc ak rfl)) (fun _ _=>rfl)))))))
theorem eT:aP ["_law_e", "_law_kind"] ["_law_e"] (aj (aQ 26)):=⟨rfl,rfl,rfl,by decide +kernel,rfl,by decide +kernel,by decide +kernel⟩
theorem iD (D:aY K mg "_law_refused" (aQ 26)) (T:Blt mg) (hgo:g=gOf mg) (cP:CIm K mg "NoText" (aQ 7) ["row"]) (cR:yS P w K mg base g "_law_kind_of" 1 ["_law_e"] dz):yS P w K mg base g "_law_refused" 2 ["_law_e"] a_:=by
 obtain⟨f,fd,hm,F⟩:=D
 obtain⟨tD,rH,iL,iI,iC,iH⟩:=cR
 refine⟨f,fd,zM F eT (fun cdv A outer s H E hr=>?_),F.kp,F.binds (fun _ _ _ _ _ _ us hl=>ir hl fun _=>rfl),hm⟩
 exact(@aA _ _ _ _ _ _ _ (@cX _ _ _ _ _ _ 1 _ _ eT.nd rfl (by first | exact Or.inl rfl | exact Or.inr rfl) (uC (iL.mono (by decide)) hr rfl iH iI iC (@ae _ _ _ _ _ _ _ (af 0) ak rfl) (aD a8)) rfl (.inl rfl))
   (@aA _ _ _ _ _ _ _ (@g7 _ _ _ _ _ _ _ _ _ _ (@bE _ _ _ _ _ _ _ _ _ _ _ (gv hr.units) kE (af 1) aw (bG _)) (@aG _ _ _ _ _ (@bu _ _ _ _ _ _ (@fE _ _ _ _ _ _ _ (@ae _ _ _ _ _ _ _ (af 1) (@ae _ _ _ _ _ _ _ (xB (af 0) cP hgo (by decide)) ak rfl) rfl)))) bW)
   (@aG _ _ _ _ _ (@bu _ _ _ _ _ _ (@oH _ _ _ _ _ _ _ _ _ _ (@bE _ _ _ _ _ _ _ _ _ _ _ (gv hr.units) kE (af 1) aw (bG _)) (@fE _ _ _ _ _ _ _ (@ae _ _ _ _ _ _ _ (af 1) (@ae _ _ _ _ _ _ _ p9 (@ae _ _ _ _ _ _ _ p9 ak rfl) rfl) rfl)) (@fE _ _ _ _ _ _ _ (@ae _ _ _ _ _ _ _ (af 1) ak rfl)))))))
theorem j6:aP ["word"] ["word"] (aj (aQ 19)):=⟨rfl,rfl,rfl,by decide +kernel,rfl,by decide +kernel,by decide +kernel⟩
theorem ji (D:aY K mg "number_read" (aQ 19)) (T:Blt mg) {fq:Tok} (dF:mg "MOST_FIGURES" = some (.int 20 fq)):Has P w K mg base g "number_read" 1 ["word"] aN:=by
 obtain⟨f,fd,hm,F⟩:=D
 refine⟨f,fd,gM F j6 (fun cdv A outer s H E hr=>?_),F.kp,F.binds (fun _ _ _ _ _ _ us hl=>ir hl fun _=>rfl),hm,bK F⟩
 exact(@aA _ _ _ _ _ _ _ (@g7 _ _ _ _ _ _ _ _ _ _ (PW.pt (@iX _ _ _ _ _ _ _ _ _ (@eQ _ _ _ _ _ _ (@dM _ _ _ _ _ _ gz (sj PySem.F.slot_str_isascii PySem.F.type_str_isascii qO wV (af 0)) (fun _=>rfl))) (@iX _ _ _ _ _ _ _ _ _ (@eQ _ _ _ _ _ _ (@dM _ _ _ _ _ _ gz (sj PySem.F.slot_str_isdigit PySem.F.type_str_isdigit qv wV (af 0)) (fun _=>rfl))) (@iF _ _ _ _ _ _ (@bE _ _ _ _ _ _ _ _ _ _ _ pZ oW (aX cu cw rfl T.len PySem.boot_len (@ae _ _ _ _ _ _ _ (af 0) ak rfl)) (ki rfl dF) (bG _)))))) (@aG _ _ _ _ _ (@bu _ _ _ _ _ _ kG)) bW)
   (@aA _ _ _ _ _ _ _ (@g7 _ _ _ _ _ _ _ _ _ _ (PW.pt (@qT _ _ _ _ _ _ _ _ _ (@bE _ _ _ _ _ _ _ _ _ _ _ (gv hr.units) kE (@eZ _ _ _ _ _ _ _ _ _ _ dw qZ (af 0) ax (fun _ _=>rfl)) aw (bG _)) (@nE _ _ _ _ _ _ (@bE _ _ _ _ _ _ _ _ _ _ _ pZ oW (aX cu cw rfl T.len PySem.boot_len (@ae _ _ _ _ _ _ _ (af 0) ak rfl)) ax (bG _))))) (@aG _ _ _ _ _ (@bu _ _ _ _ _ _ kG)) bW)
   (@aG _ _ _ _ _ (@bu _ _ _ _ _ _ (cg l9 rC rfl T.int PyProof.Rows.boot_int (@ae _ _ _ _ _ _ _ (af 0) ak rfl))))))
theorem oZ:aP ["thing"] ["thing"] (aj (aQ 10)):=⟨rfl,rfl,rfl,by decide +kernel,rfl,by decide +kernel,by decide +kernel⟩
theorem m9 (D:aY K mg "is_whole" (aQ 10)) (T:Blt mg):Has P w K mg base g "is_whole" 1 ["thing"] dJ:=by
 obtain⟨f,fd,hm,F⟩:=D
 refine⟨f,fd,gM F oZ (fun cdv A outer s H E hr=>?_),F.kp,F.binds (fun _ _ _ _ _ _ us hl=>ir hl fun _=>rfl),hm,bK F⟩
 exact(@aG _ _ _ _ _ (@bu _ _ _ _ _ _ (@uS _ _ _ _ _ _ _ _ _ (mZ (af 0) rfl T.isinstance rfl T.int PyProof.Rows.boot_int) (@wy _ _ _ _ _ _ _ (@z_ _ _ _ _ _ _ (mZ (af 0) rfl T.isinstance rfl T.bool PyProof.Rows.boot_bool))))))
theorem nI:aP ["thing", "least", "most"] ["thing", "least", "most"] (aj (aQ 11)):=⟨rfl,rfl,rfl,by decide +kernel,rfl,by decide +kernel,by decide +kernel⟩
theorem kX (D:aY K mg "is_within" (aQ 11)) (T:Blt mg) (eO:Has P w K mg base g "is_whole" 1 ["thing"] dJ):Has P w K mg base g "is_within" 2 ["thing", "least", "most"] cb:=by
 obtain⟨f,fd,hm,F⟩:=D
 obtain⟨yI,xv,nJ,n_,mG,mK,_⟩:=eO
 refine⟨f,fd,gM F nI (fun cdv A outer s H E hr=>?_),F.kp,F.binds (fun _ _ _ _ _ _ us hl=>D8 hl fun _ _ _=>rfl),hm,bK F⟩
 exact(@aG _ _ _ _ _ (@bu _ _ _ _ _ _ (@uS _ _ _ _ _ _ _ _ _ (bf (nJ.mono (by decide)) hr rfl mK n_ mG (@ae _ _ _ _ _ _ _ (af 0) ak rfl) (aD a8)) (@wy _ _ _ _ _ _ _ (xc mx mx md md (af 1) (af 0) (af 2))))))
theorem gn:aP ["thing", "number"] ["thing"] (aj (aQ 14)):=⟨rfl,rfl,rfl,by decide +kernel,rfl,by decide +kernel,by decide +kernel⟩
theorem kD (D:aY K mg "order_good" (aQ 14)) (T:Blt mg) {fi:Tok} (dB:mg "MOST_NUMBERS" = some (.int 20 fi)) (eA:Has P w K mg base g "is_within" 2 ["thing", "least", "most"] cb):Has P w K mg base g "order_good" 3 ["thing"] bJ:=by
 obtain⟨f,fd,hm,F⟩:=D
 obtain⟨xr,vg,k9,lb,lz,kY,_⟩:=eA
 refine⟨f,fd,gY (gM F gn (fun cdv A outer s H E hr=>?_)),F.kp,F.binds (fun _ _ _ _ _ _ us hl=>ir hl fun _=>rfl),hm,bK F⟩
 exact(@aA _ _ _ _ _ _ _ (@g7 _ _ _ _ _ _ _ _ _ _ (PW.pt (@iX _ _ _ _ _ _ _ _ _ (@eQ _ _ _ _ _ _ (@dM _ _ _ _ _ _ gz (mZ (af 0) rfl T.isinstance rfl T.tuple PyProof.Rows.boot_tuple) (fun _=>rfl))) (@iF _ _ _ _ _ _ (@eQ _ _ _ _ _ _ (oy mx mx md md ax (aX cu cw rfl T.len PySem.boot_len (@ae _ _ _ _ _ _ _ (af 0) ak rfl)) (ki rfl dB)))))) (@aG _ _ _ _ _ (@bu _ _ _ _ _ _ jc)) bW)
   (@aA _ _ _ _ _ _ _ (kO PassesOwn.never rfl (@fw _ _ _ _ _ _ (af 0)) (cV (i:=1) gn.nd rfl (by first | exact Or.inl rfl | exact Or.inr rfl)) fP (@aG _ _ _ _ _ (@g7 _ _ _ _ _ _ _ _ _ _ (@eQ _ _ _ _ _ _ (@dM _ _ _ _ _ _ gz (bf (k9.mono (by decide)) hr rfl kY lb lz (@ae _ _ _ _ _ _ _ (af 1) (@ae _ _ _ _ _ _ _ ax (@ae _ _ _ _ _ _ _ (@aE _ _ _ _ _ _ _ _ _ _ _ vK wY (aX cu cw rfl T.len PySem.boot_len (@ae _ _ _ _ _ _ _ (af 0) ak rfl)) ax) ak rfl) rfl) rfl) (aD (aD (aD a8)))) (fun _=>rfl))) (@aG _ _ _ _ _ (@bu _ _ _ _ _ _ jc)) bW)))
   (@aG _ _ _ _ _ (@bu _ _ _ _ _ _ (@vf _ _ _ _ _ _ _ _ _ _ _ (gv hr.units) kE (aX cu cw rfl T.len PySem.boot_len (@ae _ _ _ _ _ _ _ (cg (mP rfl) BA rfl T.set PyProof.Rows.boot_set (@ae _ _ _ _ _ _ _ (af 0) ak rfl)) ak rfl)) (aX cu cw rfl T.len PySem.boot_len (@ae _ _ _ _ _ _ _ (af 0) ak rfl)) (bG _))))))
theorem cf:aP ["text", "orders", "row", "line", "order"] ["text"] (aj (aQ 18)):=⟨rfl,rfl,rfl,by decide +kernel,rfl,by decide +kernel,by decide +kernel⟩
theorem jE (D:aY K mg "orders_read" (aQ 18)) (T:Blt mg) (hgo:g=gOf mg) (cP:CIm K mg "NoText" (aQ 7) ["row"]) {iW:Tok} (fK:mg "MOST_ROWS" = some (.int 20 iW)) (c_:Has P w K mg base g "number_read" 1 ["word"] aN) (dE:Has P w K mg base g "order_good" 3 ["thing"] bJ):Cg P w K mg base g "orders_read" 4 ["text"] aU:=by
 obtain⟨f,fd,hm,F⟩:=D
 obtain⟨uk,tP,jq,jt,jl,jh,_⟩:=c_
 obtain⟨vm,uq,kF,kz,j_,kI,_⟩:=dE
 refine⟨f,fd,gY (BS F cf (fun cdv A outer s H E hr fl pl po=>?_)),F.kp,F.binds (fun _ _ _ _ _ _ us hl=>ir hl fun _=>rfl),hm⟩
 exact(@aA _ _ _ _ _ _ _ (@g7 _ _ _ _ _ _ _ _ _ _ (@zG _ _ _ _ _ (@eQ _ _ _ _ _ _ (@dM _ _ _ _ _ _ gz (mZ (af 0) rfl T.isinstance rfl T.str rfl) (fun _=>rfl)))) (@aG _ _ _ _ _ (pf (k:=0) fl pl rfl rfl cP hgo (hr.mono (by decide)) (by decide) (@ae _ _ _ _ _ _ _ (@rM _ _ _ _ _ ax) ak rfl))) bW)
   (@aA _ _ _ _ _ _ _ (@ye _ _ _ _ _ (@cX _ _ _ _ _ _ 1 _ _ cf.nd rfl (by first | exact Or.inl rfl | exact Or.inr rfl) (@bS _ _ _ _ _ _ _ _ ak) rfl (.inl rfl)))
   (@aA _ _ _ _ _ _ _ (kO po rfl (vq rfl T.enumerate (@rM _ _ _ _ _ (hU (af 0) (@ae _ _ _ _ _ _ _ aw ak rfl)))) (zV rfl (pG (cV (i:=2) cf.nd rfl (by first | exact Or.inl rfl | exact Or.inr rfl)) (pG (cV (i:=3) cf.nd rfl (by first | exact Or.inl rfl | exact Or.inr rfl)) zd))) Am (@aA _ _ _ _ _ _ _ (@ye _ _ _ _ _ (@cX _ _ _ _ _ _ 4 _ _ cf.nd rfl (by first | exact Or.inl rfl | exact Or.inr rfl) (cg ey j9 rfl T.tuple PyProof.Rows.boot_tuple (@ae _ _ _ _ _ _ _ (eF (osc:=aj (aQ 18)) [] ["word"] rfl rfl rfl rfl (by decide +kernel) ⟨by decide +kernel,by decide +kernel,rfl,by decide +kernel,rfl,by decide +kernel⟩ (@fw _ _ _ _ _ _ (hU (af 3) (@ae _ _ _ _ _ _ _ aw ak rfl)))
    (fun cl C aH aS fp=>ip) (fun cl C aH aS fp=>(bf (jq.mono (by decide)) hr rfl jh jt jl (@ae _ _ _ _ _ _ _ (af 0) ak rfl) (aD a8)))) ak rfl)) rfl (.inl rfl)))
   (@aA _ _ _ _ _ _ _ (@g7 _ _ _ _ _ _ _ _ _ _ (@zG _ _ _ _ _ (PW.pt (@iX _ _ _ _ _ _ _ _ _ (@bE _ _ _ _ _ _ _ _ _ _ _ pZ oW (af 2) (ki rfl fK) (bG _)) (@iF _ _ _ _ _ _ (@eQ _ _ _ _ _ _ (@dM _ _ _ _ _ _ gz (bf (kF.mono (by decide)) hr rfl kI kz j_ (@ae _ _ _ _ _ _ _ (af 4) ak rfl) (aD a8)) (fun _=>rfl))))))) (@aG _ _ _ _ _ (pf (k:=0) fl pl rfl rfl cP hgo (hr.mono (by decide)) (by decide) (@ae _ _ _ _ _ _ _ (@rM _ _ _ _ _ (af 2)) ak rfl))) bW)
   (@aG _ _ _ _ _ (@ye _ _ _ _ _ (ic (eR PySem.F.slot_list_append PySem.F.type_list_append cT dv (af 1) (@ae _ _ _ _ _ _ _ (af 4) ak rfl))))))))
   (@aG _ _ _ _ _ (@ye _ _ _ _ _ (@bu _ _ _ _ _ _ (af 1)))))))
theorem h_:aP ["_law_text_here", "_law_e"] ["_law_text_here"] (aj (aQ 30)):=⟨rfl,rfl,rfl,by decide +kernel,rfl,by decide +kernel,by decide +kernel⟩
theorem k7 (D:aY K mg "_law_read" (aQ 30)) (T:Blt mg) (hgo:g=gOf mg) (CL:mW K mg) (cN:yS P w K mg base g "_law_refused" 2 ["_law_e"] a_) (dh:Cg P w K mg base g "orders_read" 4 ["text"] aU):Has P w K mg base g "_law_read" 5 ["_law_text_here"] bw:=by
 obtain⟨f,fd,hm,F⟩:=D
 obtain⟨sX,sx,iz,iw,iJ,iM⟩:=cN
 obtain⟨uo,tN,ju,jz,jF,jA⟩:=dh
 refine⟨f,fd,gM F h_ (fun cdv A outer s H E hr=>?_),F.kp,F.binds (fun _ _ _ _ _ _ us hl=>ir hl fun _=>rfl),hm,bK F⟩
 exact(@aG _ _ _ _ _ (CT (i:=1) CL hgo ⟨rfl,rfl,rfl⟩ h_.nd rfl rfl rfl rfl (iz.mono (by decide)) (vQ hr) iM iw iJ (fun pn xe E fl pl po=>(@aG _ _ _ _ _ (@bu _ _ _ _ _ _ (uz fl pl (ju.mono (by decide)) hr rfl jA jz jF (@ae _ _ _ _ _ _ _ (@rM _ _ _ _ _ (af 0)) ak rfl) (aD a8)))))))
theorem kj:aP ["_law_word"] ["_law_word"] (aj (aQ 28)):=⟨rfl,rfl,rfl,by decide +kernel,rfl,by decide +kernel,by decide +kernel⟩
theorem jx (D:aY K mg "_law_number" (aQ 28)) (T:Blt mg):Has P w K mg base g "_law_number" 1 ["_law_word"] aO:=by
 obtain⟨f,fd,hm,F⟩:=D
 refine⟨f,fd,gM F kj (fun cdv A outer s H E hr=>?_),F.kp,F.binds (fun _ _ _ _ _ _ us hl=>ir hl fun _=>rfl),hm,bK F⟩
 exact(@aA _ _ _ _ _ _ _ (@g7 _ _ _ _ _ _ _ _ _ _ (PW.pt (@iX _ _ _ _ _ _ _ _ _ (@eQ _ _ _ _ _ _ (oy mx mx md md ax (aX cu cw rfl T.len PySem.boot_len (@ae _ _ _ _ _ _ _ (af 0) ak rfl)) ax)) (@iF _ _ _ _ _ _ (@bE _ _ _ _ _ _ _ _ _ _ _ (iS hr.units) l7 (eF (osc:=aj (aQ 28)) [] ["_law_sign"] rfl rfl rfl rfl (by decide +kernel) ⟨by decide +kernel,by decide +kernel,rfl,by decide +kernel,rfl,by decide +kernel⟩ (Aw (af 0))
    (fun cl C aH aS fp=>(wG (@bE _ _ _ _ _ _ _ _ _ _ _ tQ t_ (af 0) aw (by rfl)))) (fun cl C aH aS fp=>(af 0))) (@bS _ _ _ _ _ _ _ _ ak) (bG _))))) (@aG _ _ _ _ _ (@bu _ _ _ _ _ _ kG)) bW)
   (@aG _ _ _ _ _ (@bu _ _ _ _ _ _ (@oH _ _ _ _ _ _ _ _ _ _ (PW.pt (@qT _ _ _ _ _ _ _ _ _ (@bE _ _ _ _ _ _ _ _ _ _ _ (gv hr.units) kE (@eZ _ _ _ _ _ _ _ _ _ _ dw qZ (af 0) ax (fun _ _=>rfl)) aw (bG _)) (@nE _ _ _ _ _ _ (@bE _ _ _ _ _ _ _ _ _ _ _ (iS hr.units) l7 (af 0) aw (bG _))))) kG (cg l9 rC rfl T.int PyProof.Rows.boot_int (@ae _ _ _ _ _ _ _ (af 0) ak rfl))))))
theorem cW:aP ["_law_text_here", "_law_found", "_law_row", "_law_order_here", "_law_lacks"] ["_law_text_here"] (aj (aQ 29)):=⟨rfl,rfl,rfl,by decide +kernel,rfl,by decide +kernel,by decide +kernel⟩
theorem nG (D:aY K mg "_law_due" (aQ 29)) (T:Blt mg) (dg:Has P w K mg base g "_law_number" 1 ["_law_word"] aO):Has P w K mg base g "_law_due" 2 ["_law_text_here"] cO:=by
 obtain⟨f,fd,hm,F⟩:=D
 obtain⟨ur,tY,jk,jm,jy,jg,_⟩:=dg
 refine⟨f,fd,gY (gM F cW (fun cdv A outer s H E hr=>?_)),F.kp,F.binds (fun _ _ _ _ _ _ us hl=>ir hl fun _=>rfl),hm,bK F⟩
 exact(@aA _ _ _ _ _ _ _ (@cX _ _ _ _ _ _ 1 _ _ cW.nd rfl (by first | exact Or.inl rfl | exact Or.inr rfl) (@bS _ _ _ _ _ _ _ _ ak) rfl (.inl rfl))
   (@aA _ _ _ _ _ _ _ (kO PassesOwn.never rfl (@fw _ _ _ _ _ _ (hU (af 0) (@ae _ _ _ _ _ _ _ aw ak rfl))) (cV (i:=2) cW.nd rfl (by first | exact Or.inl rfl | exact Or.inr rfl)) fP (@aA _ _ _ _ _ _ _ (@cX _ _ _ _ _ _ 3 _ _ cW.nd rfl (by first | exact Or.inl rfl | exact Or.inr rfl) (eF (osc:=aj (aQ 29)) [] ["_law_word"] rfl rfl rfl rfl (by decide +kernel) ⟨by decide +kernel,by decide +kernel,rfl,by decide +kernel,rfl,by decide +kernel⟩ (@fw _ _ _ _ _ _ (hU (af 2) (@ae _ _ _ _ _ _ _ aw ak rfl)))
    (fun cl C aH aS fp=>ip) (fun cl C aH aS fp=>(bf (jk.mono (by decide)) hr rfl jg jm jy (@ae _ _ _ _ _ _ _ (af 0) ak rfl) (aD a8)))) rfl (.inl rfl))
   (@aA _ _ _ _ _ _ _ (j4 (osc:=aj (aQ 29)) [3] ["_law_place", "_law_order_here"] rfl rfl rfl rfl (by decide +kernel) ⟨by decide +kernel,by decide +kernel,rfl,by decide +kernel,rfl,by decide +kernel⟩ (g9 rfl T.range (@ae _ _ _ _ _ _ _ (aX cu cw rfl T.len PySem.boot_len (@ae _ _ _ _ _ _ _ (af 3) ak rfl)) ak rfl))
    (fun cl C aH aS fp=>(wG (@bE _ _ _ _ _ _ _ _ _ _ _ nV Di (af 0) (af 1) (by rfl)))) (fun cl C aH aS fp=>(af 0)) (i:=4) cW.nd rfl)
   (@aA _ _ _ _ _ _ _ (@g7 _ _ _ _ _ _ _ _ _ _ (PW.pt (@iX _ _ _ _ _ _ _ _ _ (@bE _ _ _ _ _ _ _ _ _ _ _ pZ oW (aX cu cw rfl T.len PySem.boot_len (@ae _ _ _ _ _ _ _ (af 3) ak rfl)) ax (bG _)) (@iX _ _ _ _ _ _ _ _ _ (@bE _ _ _ _ _ _ _ _ _ _ _ (iS hr.units) l7 (af 4) (@bS _ _ _ _ _ _ _ _ ak) (bG _)) (@iF _ _ _ _ _ _ (@bE _ _ _ _ _ _ _ _ _ _ _ (gv hr.units) kE (aX cu cw rfl T.len PySem.boot_len (@ae _ _ _ _ _ _ _ (af 1) ak rfl)) ax (bG _)))))) (@aG _ _ _ _ _ (@bu _ _ _ _ _ _ (@fE _ _ _ _ _ _ _ (@ae _ _ _ _ _ _ _ aw (@ae _ _ _ _ _ _ _ (@aE _ _ _ _ _ _ _ _ _ _ _ ba a9 (aX cu cw rfl T.len PySem.boot_len (@ae _ _ _ _ _ _ _ (af 1) ak rfl)) ax) ak rfl) rfl)))) bW)
   (@aG _ _ _ _ _ (ic (eR PySem.F.slot_list_append PySem.F.type_list_append cT dv (af 1) (@ae _ _ _ _ _ _ _ (cg ey j9 rfl T.tuple PyProof.Rows.boot_tuple (@ae _ _ _ _ _ _ _ (af 3) ak rfl)) ak rfl))))))))
   (@aG _ _ _ _ _ (@bu _ _ _ _ _ _ (af 1)))))
theorem cM:aP ["_law_script", "_law_signs", "_law_cell", "_law_pen", "_law_some", "_law_text_here", "_law_things", "_law_turn", "_law_at", "_law_sign", "_law_thing"] ["_law_script"] (aj (aQ 32)):=⟨rfl,rfl,rfl,by decide +kernel,rfl,by decide +kernel,by decide +kernel⟩
theorem ze (D:aY K mg "law" (aQ 32)) (T:Blt mg) (cQ:Has P w K mg base g "_law_cell_at" 1 ["_law_script", "_law_k"] bh) (de:Has P w K mg base g "_law_pen_of" 1 ["_law_cell"] bA) (bP:Has P w K mg base g "_law_draw" 2 ["_law_pen", "_law_many"] az) (ef:Has P w K mg base g "_law_text" 1 ["_law_order_here"] bx) (dG:Has P w K mg base g "_law_order" 3 ["_law_pen", "_law_n"] bc) (eh:Has P w K mg base g "_law_read" 5 ["_law_text_here"] bw) (eI:Has P w K mg base g "_law_due" 2 ["_law_text_here"] cO):Has P w K mg base g "law" 6 ["_law_script"] l6:=by
 obtain⟨f,fd,hm,F⟩:=D
 obtain⟨tG,rK,iu,iU,iB,iq,_⟩:=cQ
 obtain⟨um,sR,jB,jj,jv,jw,_⟩:=de
 obtain⟨ly,j5,bO,bR,bN,bQ,_⟩:=bP
 obtain⟨xu,uI,k6,lx,ll,lD,_⟩:=ef
 obtain⟨u_,uj,kP,kK,kx,kq,_⟩:=dG
 obtain⟨xn,v_,f9,gi,gk,f_,_⟩:=eh
 obtain⟨yJ,xp,mR,oh,ny,nB,_⟩:=eI
 refine⟨f,fd,gY (gM F cM (fun cdv A outer s H E hr=>?_)),F.kp,F.binds (fun _ _ _ _ _ _ us hl=>ir hl fun _=>rfl),hm,bK F⟩
 exact(@aA _ _ _ _ _ _ _ (@cX _ _ _ _ _ _ 1 _ _ cM.nd rfl (by first | exact Or.inl rfl | exact Or.inr rfl) aw rfl (.inl rfl))
   (@aA _ _ _ _ _ _ _ (kO PassesOwn.never rfl (@fw _ _ _ _ _ _ (@aE _ _ _ _ _ _ _ _ _ _ _ ba a9 (@bS _ _ _ _ _ _ _ _ (@ae _ _ _ _ _ _ _ (bf (iu.mono (by decide)) hr rfl iq iU iB (@ae _ _ _ _ _ _ _ (af 0) (@ae _ _ _ _ _ _ _ ax ak rfl) rfl) (aD (aD a8))) ak rfl)) (wM (af 0) (@dP _ _ _ _ _ ax) (@dP _ _ _ _ _ ax)))) (cV (i:=2) cM.nd rfl (by first | exact Or.inl rfl | exact Or.inr rfl)) fP (@aA _ _ _ _ _ _ _ (@cX _ _ _ _ _ _ 3 _ _ cM.nd rfl (by first | exact Or.inl rfl | exact Or.inr rfl) (bf (jB.mono (by decide)) hr rfl jw jj jv (@ae _ _ _ _ _ _ _ (af 2) ak rfl) (aD a8)) rfl (.inl rfl))
   (@aA _ _ _ _ _ _ _ (j4 (osc:=aj (aQ 32)) [3] ["_law_turn", "_law_pen"] rfl rfl rfl rfl (by decide +kernel) ⟨by decide +kernel,by decide +kernel,rfl,by decide +kernel,rfl,by decide +kernel⟩ (g9 rfl T.range (@ae _ _ _ _ _ _ _ (@aE _ _ _ _ _ _ _ _ _ _ _ ba a9 ax (bf (bO.mono (by decide)) hr rfl bQ bR bN (@ae _ _ _ _ _ _ _ (af 3) (@ae _ _ _ _ _ _ _ ax ak rfl) rfl) (aD (aD a8)))) ak rfl))
    (fun cl C aH aS fp=>ip) (fun cl C aH aS fp=>(bf (k6.mono (by decide)) hr rfl lD lx ll (@ae _ _ _ _ _ _ _ (bf (kP.mono (by decide)) hr rfl kq kK kx (@ae _ _ _ _ _ _ _ (af 1) (@ae _ _ _ _ _ _ _ (@aE _ _ _ _ _ _ _ _ _ _ _ ba a9 ax (bf (bO.mono (by decide)) hr rfl bQ bR bN (@ae _ _ _ _ _ _ _ (af 1) (@ae _ _ _ _ _ _ _ ax ak rfl) rfl) (aD (aD a8)))) ak rfl) rfl) (aD (aD a8))) ak rfl) (aD a8))) (i:=4) cM.nd rfl)
   (@aA _ _ _ _ _ _ _ (@cX _ _ _ _ _ _ 5 _ _ cM.nd rfl (by first | exact Or.inl rfl | exact Or.inr rfl) (@iT _ _ _ _ _ _ _ _ _ _ _ _ _ _ PySem.F.slot_str_join PySem.F.type_str_join fN fT aw (@ae _ _ _ _ _ _ _ (af 4) ak rfl) (by rfl) (by rfl) (by rfl) (by rfl) (by rfl)) rfl (.inl rfl))
   (@aA _ _ _ _ _ _ _ (@cX _ _ _ _ _ _ 6 _ _ cM.nd rfl (by first | exact Or.inl rfl | exact Or.inr rfl) (@bS _ _ _ _ _ _ _ _ (@ae _ _ _ _ _ _ _ (af 5) (@ae _ _ _ _ _ _ _ (@aE _ _ _ _ _ _ _ _ _ _ _ ba a9 (af 5) aw) (@ae _ _ _ _ _ _ _ (@aE _ _ _ _ _ _ _ _ _ _ _ ba a9 aw (af 5)) (@ae _ _ _ _ _ _ _ (@aE _ _ _ _ _ _ _ _ _ _ _ ba a9 (af 5) aw) (@ae _ _ _ _ _ _ _ (@aE _ _ _ _ _ _ _ _ _ _ _ ba a9 aw (af 5)) (@ae _ _ _ _ _ _ _ aw (@ae _ _ _ _ _ _ _ aw (@ae _ _ _ _ _ _ _ aw (@ae _ _ _ _ _ _ _ aw (@ae _ _ _ _ _ _ _ aw (@ae _ _ _ _ _ _ _ aw (@ae _ _ _ _ _ _ _ aw (@ae _ _ _ _ _ _ _ aw ak rfl) rfl) rfl) rfl) rfl) rfl) rfl) rfl) rfl) rfl) rfl) rfl) rfl)) rfl (.inl rfl))
   (@aA _ _ _ _ _ _ _ (@cX _ _ _ _ _ _ 6 _ _ cM.nd rfl (by first | exact Or.inl rfl | exact Or.inr rfl) (@aE _ _ _ _ _ _ _ _ _ _ _ ba a9 (af 6) (@bS _ _ _ _ _ _ _ _ (@ae _ _ _ _ _ _ _ (@iT _ _ _ _ _ _ _ _ _ _ _ _ _ _ PySem.F.slot_str_join PySem.F.type_str_join fN fT aw (@ae _ _ _ _ _ _ _ (@aE _ _ _ _ _ _ _ _ _ _ _ jY kn (@bS _ _ _ _ _ _ _ _ (@ae _ _ _ _ _ _ _ aw ak rfl)) ax) ak rfl) (by rfl) (by rfl) (by rfl) (by rfl) (by rfl)) (@ae _ _ _ _ _ _ _ (@iT _ _ _ _ _ _ _ _ _ _ _ _ _ _ PySem.F.slot_str_join PySem.F.type_str_join fN fT aw (@ae _ _ _ _ _ _ _ (@aE _ _ _ _ _ _ _ _ _ _ _ jY kn (@bS _ _ _ _ _ _ _ _ (@ae _ _ _ _ _ _ _ aw ak rfl)) ax) ak rfl) (by rfl) (by rfl) (by rfl) (by rfl) (by rfl)) (@ae _ _ _ _ _ _ _ (@iT _ _ _ _ _ _ _ _ _ _ _ _ _ _ PySem.F.slot_str_join PySem.F.type_str_join fN fT aw (@ae _ _ _ _ _ _ _ (@aE _ _ _ _ _ _ _ _ _ _ _ ba a9 (@aE _ _ _ _ _ _ _ _ _ _ _ jY kn (@bS _ _ _ _ _ _ _ _ (@ae _ _ _ _ _ _ _ aw ak rfl)) ax) (@bS _ _ _ _ _ _ _ _ (@ae _ _ _ _ _ _ _ aw ak rfl))) ak rfl) (by rfl) (by rfl) (by rfl) (by rfl) (by rfl)) (@ae _ _ _ _ _ _ _ (@aE _ _ _ _ _ _ _ _ _ _ _ ba a9 aw (@aE _ _ _ _ _ _ _ _ _ _ _ mQ nO aw ax)) ak rfl) rfl) rfl) rfl))) rfl (.inl rfl))
   (@aA _ _ _ _ _ _ _ (@cX _ _ _ _ _ _ 6 _ _ cM.nd rfl (by first | exact Or.inl rfl | exact Or.inr rfl) (@aE _ _ _ _ _ _ _ _ _ _ _ ba a9 (af 6) (@bS _ _ _ _ _ _ _ _ (@ae _ _ _ _ _ _ _ (@aE _ _ _ _ _ _ _ _ _ _ _ ba a9 aw (@aE _ _ _ _ _ _ _ _ _ _ _ mQ nO aw ax)) (@ae _ _ _ _ _ _ _ (@aE _ _ _ _ _ _ _ _ _ _ _ mQ nO aw ax) (@ae _ _ _ _ _ _ _ aw (@ae _ _ _ _ _ _ _ aw (@ae _ _ _ _ _ _ _ aw (@ae _ _ _ _ _ _ _ aw (@ae _ _ _ _ _ _ _ aw (@ae _ _ _ _ _ _ _ aw (@ae _ _ _ _ _ _ _ aw ak rfl) rfl) rfl) rfl) rfl) rfl) rfl) rfl) rfl))) rfl (.inl rfl))
   (@aA _ _ _ _ _ _ _ (ic (eR PySem.F.slot_list_append PySem.F.type_list_append cT dv (af 6) (@ae _ _ _ _ _ _ _ (@iT _ _ _ _ _ _ _ _ _ _ _ _ _ _ PySem.F.slot_str_join PySem.F.type_str_join fN fT aw (@ae _ _ _ _ _ _ _ (eF (osc:=aj (aQ 32)) [] ["_law_number_here"] rfl rfl rfl rfl (by decide +kernel) ⟨by decide +kernel,by decide +kernel,rfl,by decide +kernel,rfl,by decide +kernel⟩ (g9 rfl T.range (@ae _ _ _ _ _ _ _ ax ak rfl))
    (fun cl C aH aS fp=>ip) (fun cl C aH aS fp=>(cg lW rA rfl T.str rfl (@ae _ _ _ _ _ _ _ (af 0) ak rfl)))) ak rfl) (by rfl) (by rfl) (by rfl) (by rfl) (by rfl)) ak rfl)))
   (@aA _ _ _ _ _ _ _ (kO PassesOwn.never rfl (g9 rfl T.range (@ae _ _ _ _ _ _ _ ax ak rfl)) (cV (i:=7) cM.nd rfl (by first | exact Or.inl rfl | exact Or.inr rfl)) fP (@aA _ _ _ _ _ _ _ (Ba (i:=8) (j:=9) rfl cM.nd rfl rfl (by decide) (@ae _ _ _ _ _ _ _ (bf (bO.mono (by decide)) hr rfl bQ bR bN (@ae _ _ _ _ _ _ _ (af 3) (@ae _ _ _ _ _ _ _ (@aE _ _ _ _ _ _ _ _ _ _ _ ba a9 (aX cu cw rfl T.len PySem.boot_len (@ae _ _ _ _ _ _ _ (af 5) ak rfl)) ax) ak rfl) rfl) (aD (aD a8))) (@ae _ _ _ _ _ _ _ (@eZ _ _ _ _ _ _ _ _ _ _ dw qZ (af 1) (bf (bO.mono (by decide)) hr rfl bQ bR bN (@ae _ _ _ _ _ _ _ (af 3) (@ae _ _ _ _ _ _ _ (aX cu cw rfl T.len PySem.boot_len (@ae _ _ _ _ _ _ _ (af 1) ak rfl)) ak rfl) rfl) (aD (aD a8))) (fun _ _=>rfl)) ak rfl) rfl))
   (@aA _ _ _ _ _ _ _ (ic (eR PySem.F.slot_list_append PySem.F.type_list_append cT dv (af 6) (@ae _ _ _ _ _ _ _ (@aE _ _ _ _ _ _ _ _ _ _ _ ba a9 (@aE _ _ _ _ _ _ _ _ _ _ _ ba a9 (@du _ _ _ _ _ _ _ _ _ _ _ (af 5) fU (@dP _ _ _ _ _ (af 8))) (af 9)) (@du _ _ _ _ _ _ _ _ _ _ _ (af 5) (@dP _ _ _ _ _ (af 8)) fU)) ak rfl)))
   (@aA _ _ _ _ _ _ _ (ic (eR PySem.F.slot_list_append PySem.F.type_list_append cT dv (af 6) (@ae _ _ _ _ _ _ _ (@aE _ _ _ _ _ _ _ _ _ _ _ ba a9 (@aE _ _ _ _ _ _ _ _ _ _ _ ba a9 (@du _ _ _ _ _ _ _ _ _ _ _ (af 5) fU (@dP _ _ _ _ _ (af 8))) (af 9)) (@du _ _ _ _ _ _ _ _ _ _ _ (af 5) (@dP _ _ _ _ _ (@aE _ _ _ _ _ _ _ _ _ _ _ ba a9 (af 8) ax)) fU)) ak rfl)))
   (@aG _ _ _ _ _ (ic (eR PySem.F.slot_list_append PySem.F.type_list_append cT dv (af 6) (@ae _ _ _ _ _ _ _ (@aE _ _ _ _ _ _ _ _ _ _ _ ba a9 (@du _ _ _ _ _ _ _ _ _ _ _ (af 5) fU (@dP _ _ _ _ _ (af 8))) (@du _ _ _ _ _ _ _ _ _ _ _ (af 5) (@dP _ _ _ _ _ (@aE _ _ _ _ _ _ _ _ _ _ _ ba a9 (af 8) ax)) fU)) ak rfl))))))))
   (@aA _ _ _ _ _ _ _ (kO PassesOwn.never rfl (@fw _ _ _ _ _ _ (af 6)) (cV (i:=10) cM.nd rfl (by first | exact Or.inl rfl | exact Or.inr rfl)) fP (@aG _ _ _ _ _ (@g7 _ _ _ _ _ _ _ _ _ _ (@bE _ _ _ _ _ _ _ _ _ _ _ (iS hr.units) l7 (aX (ot hr.gd hr.units) oJ rfl T.repr PyProof.Rows.boot_repr (@ae _ _ _ _ _ _ _ (bf (f9.mono (by decide)) hr rfl f_ gi gk (@ae _ _ _ _ _ _ _ (af 10) ak rfl) (aD a8)) ak rfl)) (aX (ot hr.gd hr.units) oJ rfl T.repr PyProof.Rows.boot_repr (@ae _ _ _ _ _ _ _ (bf (mR.mono (by decide)) hr rfl nB oh ny (@ae _ _ _ _ _ _ _ (af 10) ak rfl) (aD a8)) ak rfl)) (bG _)) (@aG _ _ _ _ _ (@bu _ _ _ _ _ _ jc)) bW)))
   (@aG _ _ _ _ _ (@kO _ _ _ _ _ _ _ _ _ _ _ PassesOwn.never rfl (@fw _ _ _ _ _ _ (@fE _ _ _ _ _ _ _ (@ae _ _ _ _ _ _ _ kG (@ae _ _ _ _ _ _ _ ax (@ae _ _ _ _ _ _ _ jc (@ae _ _ _ _ _ _ _ (@fE _ _ _ _ _ _ _ (@ae _ _ _ _ _ _ _ ax ak rfl)) (@ae _ _ _ _ _ _ _ (@bS _ _ _ _ _ _ _ _ (@ae _ _ _ _ _ _ _ aw ak rfl)) (@ae _ _ _ _ _ _ _ yP (@ae _ _ _ _ _ _ _ (@bS _ _ _ _ _ _ _ _ ak) (@ae _ _ _ _ _ _ _ (@fE _ _ _ _ _ _ _ (@ae _ _ _ _ _ _ _ aw ak rfl)) ak rfl) rfl) rfl) rfl) rfl) rfl) rfl) rfl))) (cV (i:=10) cM.nd rfl (by first | exact Or.inl rfl | exact Or.inr rfl)) fP (@aG _ _ _ _ _ (@g7 _ _ _ _ _ _ _ _ _ _ (@bE _ _ _ _ _ _ _ _ _ _ _ (iS hr.units) l7 (bf (f9.mono (by decide)) hr rfl f_ gi gk (@ae _ _ _ _ _ _ _ (af 10) ak rfl) (aD a8)) (@fE _ _ _ _ _ _ _ (@ae _ _ _ _ _ _ _ aw (@ae _ _ _ _ _ _ _ ax ak rfl) rfl)) (bG _)) (@aG _ _ _ _ _ (@bu _ _ _ _ _ _ jc)) bW)) (by intro _;rfl)))))))))))))
   (@aG _ _ _ _ _ (@bu _ _ _ _ _ _ jc))))
theorem qJ:aP ["self", "row"] ["self", "row"] (aj (bz (aQ 7))):=⟨rfl,rfl,rfl,by decide +kernel,rfl,by decide +kernel,by decide +kernel⟩
theorem pY:∀y∈(["self", "row"]:List Str),(aj (bz (aQ 7))).names.lookup y=some .local:=by decide +kernel
theorem qD:je (bq (bz (aQ 7))) ["row"]:=je.cons rfl (.nil)
theorem rp:∀(kV doc pm:Value) (an:Option Addr) (cdv ct:Value) (us:List Value),us.length=(["self", "row"]:List Str).length->bindArgs (PySem.W.fnOf "__init__" "NoText.__init__" (dU (bz (aQ 7))) (bq (bz (aQ 7))) (aj (bz (aQ 7))) .none kV doc pm an cdv ct) ⟨us,[]⟩=pure ((["self", "row"]:List Str).zip us):=fun _ _ _ _ _ _ us hl=>x9 hl fun _ _=>rfl
end
structure Text (K:PySem.W.Frag):Prop where
 dH:cA K "_law_cell_at" (aQ 21)
 d8:cA K "_law_pen_of" (aQ 23)
 fC:cA K "_law_next" (aQ 22)
 fh:cA K "_law_draw" (aQ 24)
 fL:cA K "_law_text" (aQ 31)
 eP:cA K "_law_order" (aQ 27)
 dA:cA K "_law_kind_of" (aQ 25)
 dD:cA K "_law_refused" (aQ 26)
 d9:cA K "number_read" (aQ 19)
 gx:cA K "is_whole" (aQ 10)
 fj:cA K "is_within" (aQ 11)
 eJ:cA K "order_good" (aQ 14)
 eg:cA K "orders_read" (aQ 18)
 fA:cA K "_law_read" (aQ 30)
 dZ:cA K "_law_number" (aQ 28)
 gF:cA K "_law_due" (aQ 29)
 uO:cA K "law" (aQ 32)
 cls:xm K
 ie:CIs K "NoText" (aQ 7) ["row"]
 eS:PySem.W.nsIn K mainGlobals "ValueError" = some none
 qU:PySem.W.nsIn K mainGlobals "bool" = some none
 fG:PySem.W.nsIn K mainGlobals "enumerate" = some none
 vX:PySem.W.nsIn K mainGlobals "int" = some none
 eK:PySem.W.nsIn K mainGlobals "isinstance" = some none
 xb:PySem.W.nsIn K mainGlobals "len" = some none
 q_:PySem.W.nsIn K mainGlobals "list" = some none
 wW:PySem.W.nsIn K mainGlobals "max" = some none
 mM:PySem.W.nsIn K mainGlobals "range" = some none
 qR:PySem.W.nsIn K mainGlobals "repr" = some none
 wN:PySem.W.nsIn K mainGlobals "set" = some none
 uJ:PySem.W.nsIn K mainGlobals "str" = some none
 nF:PySem.W.nsIn K mainGlobals "tuple" = some none
 bY:∃t,PySem.W.nsIn K mainGlobals "MOST_FIGURES" = some (some (Value.int 20 t))
 b9:∃t,PySem.W.nsIn K mainGlobals "MOST_NUMBERS" = some (some (Value.int 20 t))
 cZ:∃t,PySem.W.nsIn K mainGlobals "MOST_ROWS" = some (some (Value.int 20 t))
theorem all_mk {P:Program} {w:World} {K:PySem.W.Frag} {h:Heap} {mg:Str->Option Value} {fa:Addr} (X:K.In h) (G:h.Ns mainGlobals mg) (hfa:mg "law" = some (.ref fa)) (t:Text K) :
  ∃fd:FuncData,(∀(s:Shared) (v:Value),BindsTo s fd ⟨[v],[]⟩ [("_law_script", v)])/\∀base:Heap,K.In base->base.Ns mainGlobals mg->dq P w K mg base CX0 6 fa fd ["_law_script"] (spM K (gOf mg) 1 l6):=by
 have T:Blt mg:=⟨PySem.W.mg_none_of X G t.eS,PySem.W.mg_none_of X G t.qU,PySem.W.mg_none_of X G t.fG,PySem.W.mg_none_of X G t.vX,PySem.W.mg_none_of X G t.eK,PySem.W.mg_none_of X G t.xb,PySem.W.mg_none_of X G t.q_,PySem.W.mg_none_of X G t.wW,PySem.W.mg_none_of X G t.mM,PySem.W.mg_none_of X G t.qR,PySem.W.mg_none_of X G t.wN,PySem.W.mg_none_of X G t.uJ,PySem.W.mg_none_of X G t.nF⟩
 obtain⟨fq,bY⟩:=t.bY
 have dF:=PySem.W.mg_of X G bY
 obtain⟨fi,b9⟩:=t.b9
 have dB:=PySem.W.mg_of X G b9
 obtain⟨iW,cZ⟩:=t.cZ
 have fK:=PySem.W.mg_of X G cZ
 have kC:=aY.of X G t.dH
 have kU:=aY.of X G t.d8
 have pS:=aY.of X G t.fC
 have p_:=aY.of X G t.fh
 have pP:=aY.of X G t.fL
 have mT:=aY.of X G t.eP
 have kr:=aY.of X G t.dA
 have kc:=aY.of X G t.dD
 have lh:=aY.of X G t.d9
 have qW:=aY.of X G t.gx
 have pq:=aY.of X G t.fj
 have nr:=aY.of X G t.eJ
 have kZ:=aY.of X G t.eg
 have oz:=aY.of X G t.fA
 have lF:=aY.of X G t.dZ
 have qN:=aY.of X G t.gF
 have Ct:=aY.of X G t.uO
 have CL:=mW.of X G t.cls
 have cP:=CIm.of X G t.ie
 obtain⟨f,fd,hm,F⟩:=Ct
 have e:=hfa.symm.trans hm
 cases e
 refine⟨fd,?_,fun base _ _=>?_⟩
 ·obtain⟨oc,od,kV,doc,pm,an,cdv,ct,osl,rfl,lk,hcd⟩:=F.ex
  exact fun s v=>.of_eq rfl
 ·have cQ:=iO (P:=P) (w:=w) (base:=base) (g:=gOf mg) kC T
  have de:=jr (P:=P) (w:=w) (base:=base) (g:=gOf mg) kU T
  have dY:=kS (P:=P) (w:=w) (base:=base) (g:=gOf mg) pS T
  have bP:=lj (P:=P) (w:=w) (base:=base) (g:=gOf mg) p_ T dY
  have ef:=k4 (P:=P) (w:=w) (base:=base) (g:=gOf mg) pP T
  have dG:=j3 (P:=P) (w:=w) (base:=base) (g:=gOf mg) mT T bP
  have cR:=iR (P:=P) (w:=w) (base:=base) (g:=gOf mg) kr T rfl CL
  have cN:=iD (P:=P) (w:=w) (base:=base) (g:=gOf mg) kc T rfl cP cR
  have c_:=ji (P:=P) (w:=w) (base:=base) (g:=gOf mg) lh T dF
  have eO:=m9 (P:=P) (w:=w) (base:=base) (g:=gOf mg) qW T
  have eA:=kX (P:=P) (w:=w) (base:=base) (g:=gOf mg) pq T eO
  have dE:=kD (P:=P) (w:=w) (base:=base) (g:=gOf mg) nr T dB eA
  have dh:=jE (P:=P) (w:=w) (base:=base) (g:=gOf mg) kZ T rfl cP fK c_ dE
  have eh:=k7 (P:=P) (w:=w) (base:=base) (g:=gOf mg) oz T rfl CL cN dh
  have dg:=jx (P:=P) (w:=w) (base:=base) (g:=gOf mg) lF T
  have eI:=nG (P:=P) (w:=w) (base:=base) (g:=gOf mg) qN T dg
  have xE:=ze (P:=P) (w:=w) (base:=base) (g:=gOf mg) ⟨_,_,hm,F⟩ T cQ de bP ef dG eh eI
  exact AW F hm xE
theorem walk {l:PySem.W.OpenLaw} {q:Program} {loose:List Str} {XP:(Str->Option Value)->Heap->Prop} {YP:World->Heap->Prop} {d:DefRec} {K:Params->PySem.W.Frag} (hn:l.most=some 63) (hdf:d.params.defaults=[])
  (hY:∀(w:World) (h:Heap),YP w h->(K w.params).In h)
  (ok:∀ns:List Int,ns.length<=63->∃h,l6 [.scr (ns.map D.int)] []=.ok (.bl true) h)
  (F:∀(w:World) (mg:Str->Option Value) (fa:Addr) (h:Heap),(K w.params).In h->h.Ns mainGlobals mg->mg d.name=some (.ref fa) →
   ∃fd:FuncData,(∀(s:Shared) (u:Value),BindsTo s fd ⟨[u],[]⟩ [("_law_script", u)])/\∀base:Heap,(K w.params).In base->base.Ns mainGlobals mg->dq l.prog w (K w.params) mg base CX0 6 fa fd ["_law_script"] (spM (K w.params) (gOf mg) 1 l6)) :
  PySem.W.WalkO q loose XP YP l.row.toRowW d [] (fun f vs=>PySem.call f vs):=
 Ab (k:=6) hn hdf ⟨rfl,by decide,by decide,rfl⟩ hY ok F
theorem iE {i:Int} (h1:-(10 ^ 30)<=i) (h2:i<=10 ^ 30):sml i=true:=Ao (Nat.le_trans (show i.natAbs<=10 ^ 30 by omega) (by decide +kernel))
theorem nD {h:Hh} {n:Nat} {ds:List D} (e:av h n=some ds):n<h.length:=by
 unfold av at e
 by_cases hl:n<h.length
 ·exact hl
 ·rw[List.getElem?_eq_none (by omega)] at e;cases e
theorem hW {h:Hh} {n:Nat} {ds es:List D} (e:av h n=some ds):av (h.set n (.lst es)) n=some es:=by
 unfold av;rw[List.getElem?_set_self (nD e)]
theorem mU {h t:Hh} {n:Nat} {ds:List D} (e:av h n=some ds):av (h++t) n=some ds:=by
 have:=nD e
 unfold av at e ⊢;rw[List.getElem?_append_left this];exact e
theorem xS {h t:Hh} {n:Nat} {o:O} (hn:n<h.length):(h++t).set n o=h.set n o++t:=List.set_append_left _ _ hn
theorem wZ {h:Hh} {n:Nat} {ds:List D} (e:av h n=some ds):h.set n (.lst ds)=h:=by
 unfold av at e
 split at e
 ·rename_i ds' q
  cases e
  refine List.ext_getElem? fun i=>?_
  rw[List.getElem?_set]
  split
  ·rename_i hi;subst hi
   have hl:n<h.length:=by
    by_cases hl:n<h.length
    ·exact hl
    ·rw[List.getElem?_eq_none (by omega)] at q;cases q
   rw[if_pos hl,q]
  ·rfl
 ·cases e
theorem rf {h:Hh} {n:Nat} {ds:List D} (w:Wf h) (l:bU h.length ds=true):Wf (h.set n (.lst ds)):=by
 unfold Wf at w ⊢
 rw[List.length_set,List.all_eq_true] at *
 intro x hx
 rcases List.mem_or_eq_of_mem_set hx with hx | hx
 ·exact w x hx
 ·subst hx;exact l
structure Pen where
 a:Int
 b:Int
 s:Int
noncomputable abbrev bF (p:Pen):List D:=[.int p.a,.int p.b,.int p.s]
noncomputable def nxt (x:Int):Int:=((x+7919) % 2147483647*((x+7919) % 2147483647)+48271*((x+7919) % 2147483647)+12345) % 2147483629
noncomputable def cJ (p:Pen) (m:Int):Int:=if p.b=1/\0<p.a then p.a % m else nxt (nxt p.s+7) / 64 % m
noncomputable def cK (p:Pen) (m:Int):Pen:=if p.b=1/\0<p.a then ⟨p.a / m,p.b,p.s⟩ else ⟨p.a,p.b,nxt (nxt p.s+7)⟩
theorem nK (p:Pen) {m:Int} (h:0<m):0<=cJ p m:=by unfold cJ;split<;>exact Int.emod_nonneg _ (by omega)
theorem jX (p:Pen) {m:Int} (h:0<m):cJ p m<m:=by unfold cJ;split<;>exact Int.emod_lt_of_pos _ h
@[simp] theorem Eu {x:Int} {h:Hh}:cx [.int x] h=.ok (.int (nxt x)) h:=by
 have h1:0<=(x+7919) % 2147483647:=Int.emod_nonneg _ (by decide)
 have h2:(x+7919) % 2147483647<2147483647:=Int.emod_lt_of_pos _ (by decide)
 have s1:sml ((x+7919) % 2147483647)=true:=iE (by omega) (by omega)
 have s2:sml 48271=true:=by decide +kernel
 simp[cx,aW,s1,s2,nxt]
theorem qx {p:Pen} {m:Int} {h:Hh} {n:Nat} (e:av h n=some (bF p)) (hm:0<m) (hm2:m<=10 ^ 20):az [.ref n,.int m] h=.ok (.int (cJ p m)) (h.set n (.lst (bF (cK p m)))):=by
 have s1:sml m=true:=iE (by omega) (by omega)
 have s2:sml 64=true:=by decide +kernel
 have i2:∀(x y z:Int) (h:Hh),ixK [D.int x,.int y,.int z] 2 h=.ok (.int z) h:=fun _ _ _ _=>rfl
 have n0:ixN (bF p).length 0=some 0:=rfl
 have n2:ixN (bF p).length 2=some 2:=rfl
 by_cases c:p.b=1
 ·by_cases c2:0<p.a
  ·simp[az,aW,p6 e,c,c2,hm,s1,nq e n0,cJ,cK]
  ·simp[az,aW,p6 e,c,c2,i2,nq e n2,p6 (hW e),s1,s2,hm,cJ,cK]
 ·simp[az,aW,p6 e,c,i2,nq e n2,p6 (hW e),s1,s2,hm,cJ,cK]
@[simp] theorem zf {p:Pen} {m:Int} {h t:Hh} (hm:0<m/\m<=10 ^ 20):az [.ref h.length,.int m] (h++.lst (bF p)::t)=.ok (.int (cJ p m)) (h++.lst (bF (cK p m))::t):=by
 rw[qx cF hm.1 hm.2,jI]
noncomputable def rq (c:Int):Pen:=⟨max c (0 - c),if max c (0 - c) ≥ 10 ^ 18 then 1 else 0,max c (0 - c) % 1000003⟩
@[simp] theorem Fm {c:Int} {h:Hh}:bA [.int c] h=.ok (.ref h.length) (h++[.lst (bF (rq c))]):=by
 have s1:sml 10=true:=by decide +kernel
 simp[bA,aW,s1,rq]
@[simp] theorem DW {ns:List Int} {h:Hh}:bh [.scr (ns.map D.int),.int 0] h=.ok (.int (ns.headD 0)) h:=by
 cases ns with
 | nil=>simp[bh,aW]
 | cons c r=>simp[bh,aW]
@[simp] theorem DL {i:Int} {h:Hh}:dJ [.int i] h=.ok (.bl true) h:=by simp[dJ,aW]
@[simp] theorem wQ {i a b:Int} {h:Hh}:cb [.int i,.int a,.int b] h=.ok (.bl (decide (a<=i/\i<=b))) h:=by
 by_cases z:a<=i<;>simp[cb,aW,z]
structure Ord (n:Nat) (xs:List Int):Prop where
 len:xs.length=n
 nd:xs.Nodup
 lo:∀x∈xs,0<=x
 hi:∀x∈xs,x<n
noncomputable def eG (lo:Int) (n:Nat):List Int:=(List.range n).map fun(i:Nat)=>lo+i
theorem za (lo:Int) (n:Nat):bL lo n=(eG lo n).map D.int:=by simp[bL,eG,List.map_map]
theorem fD (lo:Int) (n:Nat):(eG lo n).length=n:=by simp[eG]
theorem hX (n:Nat):Ord n (eG 0 n):=by
 refine⟨fD _ _,?_,?_,?_⟩
 ·unfold eG List.Nodup
  rw[List.pairwise_map]
  exact List.Pairwise.imp (fun{a b} h e=>h (by omega)) List.nodup_range
 ·intro x hx;simp[eG] at hx;omega
 ·intro x hx;simp[eG] at hx;omega
noncomputable def dR (s:Pen × List Int) (_:Nat):Pen × List Int:=(cK s.1 s.2.length,s.2.eraseIdx (cJ s.1 s.2.length).toNat)
noncomputable def fH (s:Pen × List Int) (_:Nat):Int:=gI s.2 (cJ s.1 s.2.length).toNat
noncomputable def mF (p:Pen) (k:Nat):(Pen × List Int) × List Int:=(List.range k).foldl (fun a x=>(dR a.1 x,a.2++[fH a.1 x])) ((p,eG 0 k),[])
noncomputable def js (p:Pen) (k:Nat):Pen:=(mF p k).1.1
noncomputable def ij (p:Pen) (k:Nat):List Int:=(mF p k).2
theorem mB {σ X β:Type} (f:σ->X->σ) (g:σ->X->β):∀(xs:List X) (s:σ) (o:List β),(xs.foldl (fun a x=>(f a.1 x,a.2++[g a.1 x])) (s,o)).1=xs.foldl f s
 | [],_,_=>rfl
 | x::xs,s,o=>by rw[List.foldl_cons,List.foldl_cons];exact mB f g xs _ _
theorem getElem_erase {X:Type}:∀{l:List X} {n:Nat} (h:n<l.length),(l[n]::l.eraseIdx n).Perm l
 | x::l,0,_=>by simp
 | x::l,n+1,h=>by
  simp only[List.getElem_cons_succ,List.eraseIdx_cons_succ]
  exact(List.Perm.swap _ _ _).trans (List.Perm.cons x (getElem_erase (by simpa using h)))
theorem xX (p:Pen) (k:Nat):∀j,j<=k->∀a,a=(List.range j).foldl (fun a x=>(dR a.1 x,a.2++[fH a.1 x])) ((p,eG 0 k),[])->a.1.2.length=k - j/\a.2.length=j/\(a.2++a.1.2).Perm (eG 0 k):=by
 intro j
 induction j with
 | zero=>intro _ a e;subst e;simp[fD]
 | succ j ih=>
  intro hj a e
  rw[List.range_succ,List.foldl_append] at e
  generalize hb:(List.range j).foldl (fun a x=>(dR a.1 x,a.2++[fH a.1 x])) ((p,eG 0 k),[])=b at e
  obtain⟨l1,l2,pm⟩:=ih (by omega) b hb.symm
  subst e
  simp only[List.foldl_cons,List.foldl_nil,dR,fH]
  have hp:(0:Int)<(b.1.2.length:Nat):=by omega
  have d0:=nK b.1.1 hp
  have d1:=jX b.1.1 hp
  generalize cJ b.1.1 (b.1.2.length:Nat)=d at d0 d1
  have hd:d.toNat<b.1.2.length:=by omega
  refine⟨by rw[List.length_eraseIdx,if_pos hd];omega,by simp[l2],?_⟩
  refine List.Perm.trans ?_ pm
  rw[List.append_assoc]
  refine List.Perm.append_left _ ?_
  rw[zB hd]
  exact getElem_erase hd
theorem uD (p:Pen) (k:Nat):Ord k (ij p k):=by
 obtain⟨l1,l2,pm⟩:=xX p k k (Nat.le_refl _) _ rfl
 have e:(mF p k).1.2=[]:=List.eq_nil_of_length_eq_zero (by unfold mF;omega)
 have pm':(ij p k).Perm (eG 0 k):=by
  unfold ij
  have:(mF p k).2++(mF p k).1.2=(mF p k).2:=by rw[e,List.append_nil]
  rw[<- this];exact pm
 have o:=hX k
 exact⟨by rw[pm'.length_eq,o.len],pm'.nodup_iff.mpr o.nd,fun x hx=>o.lo x (pm'.mem_iff.mp hx),fun x hx=>o.hi x (pm'.mem_iff.mp hx)⟩
theorem C_ {n k:Nat} {ds:List D} {i:Int} {d:D} {h:Hh} (e:av h n=some ds) (e2:ixN ds.length i=some k) (e3:ds[k]?=some d) (hl:ds.length<=1000000):o_ (.ref n) [.int i] h=.ok d (h.set n (.lst (ds.eraseIdx k))):=by delta o_;dsimp only;rw[e];dsimp only;rw[e2];dsimp only;rw[e3];exact if_pos hl
theorem gJ {X Y:Type} (f:X->Y):∀(xs:List X) (k:Nat),(xs.map f).eraseIdx k=(xs.eraseIdx k).map f
 | [],_=>rfl
 | _::_,0=>rfl
 | x::xs,k+1=>by simp[gJ f xs k]
theorem zj {p:Pen} {k:Nat} {h:Hh} {n:Nat} (e:av h n=some (bF p)) (w:Wf h) (hk:k<=1000):bc [.ref n,.int k] h=.ok (.tup ((ij p k).map D.int)) (h.set n (.lst (bF (js p k)))):=by
 have hn:=nD e
 have z1:k<=1000000:=by omega
 have st:∀(s:Pen × List Int) (x:Nat) (r:List Nat),(s.2.length=(x::r).length/\(x::r).length<=k)->((dR s x).2.length=r.length/\r.length<=k) ∧
   (bo o_ (ag 1) (aa (ah az (aa (ag 2) (aa (ah bC (aa (ag 1) ai)) ai))) ai)) [some (D.int (0+(x:Int))),some (.ref h.length),some (.ref n)] (h.set n (.lst (bF s.1))++[.lst (s.2.map D.int)])=.ok (D.int (fH s x)) (h.set n (.lst (bF (dR s x).1))++[.lst ((dR s x).2.map D.int)]):=by
  intro s x r ⟨hs,hr⟩
  simp only[List.length_cons] at hs hr
  have hp:(0:Int)<(s.2.length:Nat):=by omega
  have hp2:((s.2.length:Nat):Int)<=10 ^ 20:=by omega
  have d0:=nK s.1 hp
  have d1:=jX s.1 hp
  have hd:(cJ s.1 s.2.length).toNat<s.2.length:=by omega
  refine⟨⟨by simp only[dR];rw[List.length_eraseIdx,if_pos hd];omega,by omega⟩,?_⟩
  have hL:(h.set n (.lst (bF s.1))).length=h.length:=List.length_set
  have e1:av (h.set n (.lst (bF s.1))++[.lst (s.2.map D.int)]) n=some (bF s.1):=mU (hW e)
  have e2:av (h.set n (.lst (bF s.1))++[.lst (s.2.map D.int)]) h.length=some (s.2.map D.int):=by rw[<- hL];exact cF
  have e3:(h.set n (.lst (bF s.1))++[O.lst (s.2.map D.int)]).set n (.lst (bF (cK s.1 s.2.length)))=h.set n (.lst (bF (cK s.1 s.2.length)))++[.lst (s.2.map D.int)]:=by rw[xS (by omega),List.set_set]
  have hL':(h.set n (.lst (bF (cK s.1 s.2.length)))).length=h.length:=List.length_set
  have e4:av (h.set n (.lst (bF (cK s.1 s.2.length)))++[.lst (s.2.map D.int)]) h.length=some (s.2.map D.int):=by rw[<- hL'];exact cF
  have e5:(s.2.map D.int)[(cJ s.1 s.2.length).toNat]?=some (.int (fH s x)):=by
   rw[List.getElem?_map,List.getElem?_eq_getElem hd];simp[fH,zB hd]
  have e6:ixN (s.2.map D.int).length (cJ s.1 s.2.length)=some (cJ s.1 s.2.length).toNat:=by rw[List.length_map];exact yH (by omega) hd
  simp only[xF,vn,qL,aZ,qo e2,if_true,xi,vz,zw,wD e2,List.length_map,qx e1 hp hp2,e3,C_ e4 e6 e5 (by rw[List.length_map];omega)]
  rw[<- hL',jI,gJ]
  rfl
 obtain⟨ys,q1,q2,q3⟩:=lG (te:=bo o_ (ag 1) (aa (ah az (aa (ag 2) (aa (ah bC (aa (ag 1) ai)) ai))) ai)) (ee:=fun d=>[some d,some (.ref h.length),some (.ref n)])
  (fun(s:Pen × List Int)=>h.set n (.lst (bF s.1))++[.lst (s.2.map D.int)]) (fun(i:Nat)=>D.int (0+i)) dR (fun s x=>D.int (fH s x)) (fun r s=>s.2.length=r.length/\r.length<=k) st (List.range k) (p,eG 0 k) ⟨by simp[fD],by simp⟩
 have q1':cj tt1 (bo o_ (ag 1) (aa (ah az (aa (ag 2) (aa (ah bC (aa (ag 1) ai)) ai))) ai)) (fun d=>[some d,some (.ref h.length),some (.ref n)]) (bL 0 k) (h++[.lst (bL 0 k)])=.ok ((ij p k).map D.int) (h.set n (.lst (bF (js p k)))++[.lst []]):=by
  have a1:h.set n (.lst (bF p))=h:=wZ e
  have a2:((List.range k).foldl dR (p,eG 0 k)).2=[]:=List.eq_nil_of_length_eq_zero q2.1
  have a3:((List.range k).foldl dR (p,eG 0 k)).1=js p k:=by unfold js mF;rw[mB]
  have a4:ys=(ij p k).map D.int:=by
   rw[q3]
   unfold ij mF
   have key:∀(xs:List Nat) (s:Pen × List Int) (o:List Int),(xs.foldl (fun(a:(Pen × List Int) × List D) x=>(dR a.1 x,a.2++[D.int (fH a.1 x)])) (s,o.map D.int)).2=((xs.foldl (fun(a:(Pen × List Int) × List Int) x=>(dR a.1 x,a.2++[fH a.1 x])) (s,o)).2).map D.int:=by
    intro xs
    induction xs with
    | nil=>intro s o;rfl
    | cons x xs ih=>
     intro s o
     rw[List.foldl_cons,List.foldl_cons]
     have:=ih (dR s x) (o++[fH s x])
     simpa using this
   exact key _ _ []
  simp only[a1,a2,a3,a4,List.map_nil] at q1
  rw[<- za] at q1
  exact q1
 have hL:(h.set n (.lst (bF (js p k)))).length=h.length:=List.length_set
 have w':Wf (h.set n (.lst (bF (js p k)))):=rf w rfl
 have ex:bZ h (.tup ((ij p k).map D.int)) (h.set n (.lst (bF (js p k)))++[.lst []])=.ok (.tup ((ij p k).map D.int)) (h.set n (.lst (bF (js p k)))):=by
  have:=dy (h:=h.set n (.lst (bF (js p k)))) (t:=[.lst []]) (d:=.tup ((ij p k).map D.int)) w' (by simp)
  unfold bZ at this ⊢
  rw[hL] at this
  exact this
 have hk6:k<=1000000:=by omega
 simp[bc,aW,z1,gC,q1',ex,hk6]
noncomputable def qb {X:Type} (xs:List X) (lo hi:Option Int):List X:=(xs.drop (HT.sIx xs.length 0 lo)).take (HT.sIx xs.length xs.length hi - HT.sIx xs.length 0 lo)
theorem vx {X:Type} (f:X->D) (xs:List X) (lo hi:Option Int):cutD (xs.map f) lo hi=(qb xs lo hi).map f:=by
 unfold cutD qb
 rw[List.length_map,List.map_take,List.map_drop]
theorem kg {k:Nat} {h:Hh}:∀{ns:List Int},(∀x∈ns,sml x=true)->bj (toPy (k+1) h) (ns.map D.int)=some (ns.map PyData.int)
 | [],_=>rfl
 | n::r,hs=>by
  have h1:sml n=true:=hs n List.mem_cons_self
  rw[List.map_cons,bj,kg (ns:=r) fun x hx=>hs x (List.mem_cons_of_mem _ hx)]
  simp[toPy,h1]
theorem lY:∀ns:List Int,PyData.bulkAll (ns.map PyData.int)=ns.length
 | []=>rfl
 | n::r=>by rw[List.map_cons,PyData.bulkAll,lY r,PyData.bulk,List.length_cons];omega
theorem rQ (i:Int):∀ns:List Int,((ns.map D.int).any fun d=>eqF d (.int i))=ns.any (· == i)
 | []=>rfl
 | n::r=>by rw[List.map_cons,List.any_cons,List.any_cons,rQ i r];rfl
theorem sD {i:Int} (h0:0<=i) (h:i<=1000000):sml i=true:=iE (by omega) (by omega)
theorem vd {h:Hh} (w:Wf h) (p:Pen):Wf (h++[.lst (bF p)]):=w.app rfl
theorem u9 (p:Pen) (m:Int) (h:0<m):∃k:Nat,cJ p m=(k:Int)/\(k:Int)<m:=by
 have h0:=nK p h
 have h1:=jX p h
 exact⟨(cJ p m).toNat,by omega,by omega⟩
theorem tU (ns:List Int) (lo hi:Option Int):cutD (ns.map D.int) lo hi=(qb ns lo hi).map D.int:=vx _ _ _ _
theorem yQ {X:Type} (xs:List X) (lo hi:Option Int):(qb xs lo hi).length<=xs.length:=by
 unfold qb;rw[List.length_take,List.length_drop];omega
theorem wO {p:Pen} {k:Nat} {h:Hh} (w:Wf h) (hk:k<=1000):bc [.ref h.length,.int k] (h++[.lst (bF p)])=.ok (.tup ((ij p k).map D.int)) (h++[.lst (bF (js p k))]):=by
 rw[zj cF (vd w p) hk,jI]
theorem qm:∀(n:Nat) (xs:List Int),xs.Nodup->(∀x∈xs,0<=x/\x<n)->xs.length<=n
 | 0,xs,_,h=>by
  cases xs with
  | nil=>simp
  | cons x r=>have:=h x List.mem_cons_self;omega
 | n+1,xs,nd,h=>by
  by_cases hm:(n:Int)∈xs
  ·have ih:=qm n (xs.erase n) (nd.erase _) (fun x hx=>by
    obtain⟨a,b⟩:=(List.Nodup.mem_erase_iff nd).mp hx
    have:=h x b;omega)
   rw[List.length_erase_of_mem hm] at ih
   omega
  ·have ih:=qm n xs nd (fun x hx=>by
    have a:=h x hx
    have b:x≠(n:Int):=fun e=>hm (e ▸ hx)
    omega)
   omega
theorem yK {n:Nat} {xs:List Int} (o:Ord n xs) {j:Int} (h0:0<=j) (h1:j<n):j∈xs:=by
 refine Classical.byContradiction fun hj=>?_
 have:=qm n (j::xs) (List.nodup_cons.mpr ⟨hj,o.nd⟩) (fun x hx=>by
  rcases List.mem_cons.mp hx with rfl | hx
  ·exact⟨h0,h1⟩
  ·exact⟨o.lo x hx,o.hi x hx⟩)
 rw[List.length_cons,o.len] at this
 omega
section
variable {env:En} {h:Hh}
@[simp] theorem Fw {β:Type} {m:En->Hh->R β}:up m env h=noR (m env h):=Eq.trans rfl rfl
@[simp] theorem wF {β γ:Type} {x:Xc} {f:β->Hh->R γ}:(R.err x h:R β).bind f=.err x h:=Eq.trans rfl rfl
theorem Bk {mb:MS} {mr:MF} {fl:Fl} {h':Hh} (e:mb env h=.ok fl h'):ku mb mr env h=.ok fl h':=by unfold ku;rw[e]
theorem A9 {mb:MS} {mr:MF} {x:Xc} {d:D} (w:Wf h) (e:mb env h=.err x h) (c:aV.contains x.cls=true) (r:mr [.exc x.cls x.fs] h=.ok d h):ku mb mr env h=.ok (.rt d) h:=by
 unfold ku
 rw[e]
 have w':(h.take h.length).all (gD h.length)=true:=by rw[List.take_length];exact w
 show(if (aV.contains x.cls&&(h.take h.length).all (gD h.length))=true then _ else _)=_
 rw[c,w',List.take_length,r]
 rfl
end
noncomputable def itm:D->Bool
 | .int _=>true
 | .bl _=>true
 | .non=>true
 | .str _=>true
 | .tup _=>true
 | .frl _=>true
 | .edic=>true
 | _=>false
noncomputable def isI:D->Bool
 | .int _=>true
 | _=>false
noncomputable def eL:D->Int
 | .int i=>i
 | _=>0
noncomputable def inR (a b:Int):D->Bool
 | .int i=>decide (a<=i/\i<=b)
 | _=>false
theorem y0 {a b:Int} {d:D} (e:inR a b d=true):isI d=true:=by cases d<;>first | rfl | (simp[inR] at e)
theorem yl {d:D} (e:isI d=true):d=.int (eL d):=by cases d<;>first | rfl | (simp[isI] at e)
theorem jQ:∀{ds:List D},ds.all isI=true->ds=(ds.map eL).map D.int
 | [],_=>rfl
 | d::ds,e=>by
  simp only[List.all_cons,Bool.and_eq_true] at e
  rw[List.map_cons,List.map_cons,<- jQ e.2,<- yl e.1]
theorem nL {a b:Int}:∀{ds:List D},ds.all (inR a b)=true->ds.all isI=true:=fun{ds} e=>by
 rw[List.all_eq_true] at e ⊢
 exact fun d hd=>y0 (e d hd)
theorem tF {a b:Int} {d:D} {h:Hh} (k:itm d=true):cb [d,.int a,.int b] h=.ok (.bl (inR a b d)) h:=by
 cases d with
 | int i=>rw[wQ];rfl
 | _=>first | (exact absurd k Bool.false_ne_true) | rfl
theorem zD {xs:List D} {h:Hh}:dNe (.frl xs) (.frl []) h=.ok (.bl (!xs.isEmpty)) h:=by cases xs<;>rfl
theorem AG {d:D} {h:Hh} (k:itm d=true) (n:∀ds,d≠.tup ds):fZ "tuple" d h=.ok (.bl false) h:=by
 cases d<;>first | (exact absurd k Bool.false_ne_true) | exact absurd rfl (n _) | rfl
noncomputable def RA (e:D):Prop:=∀h,∃p,toPy 11 h e=some p/\p.bulk<=100
noncomputable def RX (d:D):Prop:=∀h,∃s,fF [d] h=.ok (.str s) h
theorem lS {f:D->Option PyData} {n:Nat}:∀{ds:List D},(∀e∈ds,∃p,f e=some p/\p.bulk<=n)->∃ps,bj f ds=some ps/\PyData.bulkAll ps<=(n+1)*ds.length
 | [],_=>⟨[],rfl,by simp[PyData.bulkAll]⟩
 | d::ds,k=>by
  obtain⟨p,e,b⟩:=k d List.mem_cons_self
  obtain⟨ps,e2,b2⟩:=lS (ds:=ds) fun x hx=>k x (List.mem_cons_of_mem _ hx)
  refine⟨p::ps,by simp[bj,e,e2],?_⟩
  rw[PyData.bulkAll,List.length_cons,Nat.mul_add]
  omega
theorem ES {ds:List D} (hl:ds.length<=60) (k:∀e∈ds,RA e):RX (.tup ds):=by
 intro h
 obtain⟨ps,e,b⟩:=lS fun x hx=>k x hx h
 have e1:toPy 12 h (.tup ds)=some (.tuple ps):=by
  show(bj (toPy 11 h) ds).map PyData.tuple=_
  rw[e];rfl
 have e2:PyData.bulk (.tuple ps)<=8000:=by rw[PyData.bulk];omega
 exact⟨_,pQ (show m_ (.tup ds) h=.ok (.str (PyData.tuple ps).shown) h from by delta m_;rw[e1];exact if_pos e2)⟩
theorem BI {i:Int} (s:sml i=true):RA (.int i):=fun h=>⟨.int i,by show(if sml i=true then some (PyData.int i) else none)=_;rw[if_pos s],by simp[PyData.bulk]⟩
theorem kB {te:ME} {ee:D->En} (G:Pen->Hh) (P:D->Prop) (st:∀x p,∃d p',te (ee x) (G p)=.ok d (G p')/\P d):∀(xs:List D) (p:Pen),∃ys p',cj tt1 te ee xs (G p)=.ok ys (G p')/\(∀y∈ys,P y)/\ys.length=xs.length
 | [],p=>⟨[],p,rfl,by simp,rfl⟩
 | x::xs,p=>by
  obtain⟨d,p1,e,q⟩:=st x p
  obtain⟨ys,p2,e2,q2,l⟩:=kB G P st xs p1
  refine⟨d::ys,p2,?_,?_,by simp[l]⟩
  ·rw[cj,zq,aZ,if_pos rfl,e,aZ,e2];rfl
  ·intro y hy
   rcases List.mem_cons.mp hy with rfl | hy
   ·exact q
   ·exact q2 y hy
structure ThW (d:D):Prop where
 it:itm d=true
 its:∀ds,d=.tup ds->(∀e∈ds,itm e=true)/\True
noncomputable def OGB:MS:=dC (dk (aK hZ (ah cb (aa (ag 1) (aa (cC (.int 0)) (aa (aq ub (ah bC (aa (ag 0) ai)) (cC (.int 1))) ai)))))) (bD (cC (.bl false))) b8
theorem rN {es:List D} {h:Hh}:∀(ds:List D) (s:Option D),(∀d∈ds,itm d=true)->∃s',(ds.all (inR 0 ((es.length:Int) - 1))=true->cS (gN 1) OGB ds [some (.tup es),s] h=.ok (.nx [some (.tup es),s']) h)/\(ds.all (inR 0 ((es.length:Int) - 1))=false->cS (gN 1) OGB ds [some (.tup es),s] h=.ok (.rt (.bl false)) h)
 | [],s,_=>⟨s,fun _=>rfl,fun z=>nomatch z⟩
 | d::ds,s,k=>by
  obtain⟨s',e1,e2⟩:=rN (es:=es) (h:=h) ds (some d) (fun x hx=>k x (List.mem_cons_of_mem _ hx))
  have w:=tF (a:=0) (b:=(es.length:Int) - 1) (h:=h) (k d List.mem_cons_self)
  have b1:inR 0 ((es.length:Int) - 1) d=true->OGB [some (.tup es),some d] h=.ok (.nx [some (.tup es),some d]) h:=fun c=>by simp[OGB,w,c]
  have b2:inR 0 ((es.length:Int) - 1) d=false->OGB [some (.tup es),some d] h=.ok (.rt (.bl false)) h:=fun c=>by simp[OGB,w,c]
  refine⟨s',fun z=>?_,fun z=>?_⟩
  ·rw[List.all_cons,Bool.and_eq_true] at z
   rw[eD]
   simp only[A8,aZ,List.set,b1 z.1,lZ,e1 z.2]
  ·rw[eD]
   simp only[A8,aZ,List.set]
   cases c:inR 0 ((es.length:Int) - 1) d with
   | false=>rw[b2 c];simp
   | true=>
    rw[List.all_cons,c,Bool.true_and] at z
    simp only[b1 c,aZ,lZ,e2 z]
noncomputable def ogB (ds:List D):Bool:=decide (1<=(ds.length:Int)/\(ds.length:Int)<=20)&&(ds.all (inR 0 ((ds.length:Int) - 1))&&((unl (ds.map eL)).length == ds.length))
noncomputable def ogD:D->Bool
 | .tup ds=>ogB ds
 | _=>false
theorem zo:bJ=fun ds h=>((cI 2 (aF (dC (g8 (dk (aK hZ (cUn (fZ "tuple") (ag 0)))) (dk (aK asB (fe dLe dLe (cC (.int 1)) (ah bC (aa (ag 0) ai)) (cC (.int 20)))))) (bD (cC (.bl false))) b8)
  (aF (dN (cB (ag 0)) (gN 1) OGB) (bD (aq dEq (ah bC (aa (ah oO (aa (ag 0) ai)) ai)) (ah bC (aa (ag 0) ai))))))) ds h).bind (bZ h):=rfl
theorem x_ {d:D} {h:Hh} (t:ThW d) (w:Wf h):bJ [d] h=.ok (.bl (ogD d)) h:=by
 have ex:∀t b,bZ h (.bl b) (h++t)=.ok (.bl b) h:=fun t b=>dy w rfl
 have ex0:∀b,bZ h (.bl b) h=.ok (.bl b) h:=fun b=>pJ w rfl
 by_cases nt:∀ds,d≠.tup ds
 ·have e1:=AG (h:=h) t.it nt
  have e2:ogD d=false:=by cases d<;>first | rfl | exact absurd rfl (nt _)
  rw[zo,e2]
  simp[aW,e1,ex0]
 ·obtain⟨ds,rfl⟩:∃ds,d=.tup ds:=Classical.byContradiction fun z=>nt fun ds e=>z ⟨ds,e⟩
  obtain⟨k,_⟩:=t.its ds rfl
  obtain⟨s',q1,q2⟩:=rN (es:=ds) (h:=h) ds none k
  show _=R.ok (D.bl (ogB ds)) h
  unfold ogB
  rw[zo]
  by_cases c:1<=(ds.length:Int)/\(ds.length:Int)<=20
  ·by_cases c2:ds.all (inR 0 ((ds.length:Int) - 1))=true
   ·have q:=q1 c2
    have ei:=jQ (nL c2)
    have c3:ds.length<=4000:=by omega
    have st:oO [.tup ds] h=.ok (.ref h.length) (h++[.set (unl (ds.map eL))]):=by
     have:=BH (h:=h) (ns:=ds.map eL)
     rw[<- ei] at this
     rw[this,List.length_map,if_pos c3]
    have cc:(((unl (ds.map eL)).length:Int) == (ds.length:Int))=((unl (ds.map eL)).length == ds.length):=by
     rw[Bool.eq_iff_iff];simp;omega
    simp only[aW,List.map_cons,List.map_nil,List.length_cons,List.length_nil,List.replicate,List.cons_append,List.nil_append,zl,DG,Cq,Bq,Bi,Ed,qL,aZ,z0,BJ,Bool.not_true,zg]
    simp[c.1,c.2,q,st,c2,ex,cc]
   ·simp only[Bool.not_eq_true] at c2
    have q:=q2 c2
    simp[aW,c.1,c.2,q,c2,ex0]
  ·have c':decide (1<=(ds.length:Int)/\(ds.length:Int)<=20)=false:=by simpa using c
   rw[c']
   by_cases c1:1<=(ds.length:Int)
   ·have c4:¬ (ds.length:Int)<=20:=fun z=>c ⟨c1,z⟩
    simp[aW,c1,c4,ex0]
   ·simp[aW,c1,ex0]
theorem jK {xs:List Int} {k:Int}:k∈unl xs↔k∈xs:=by
 have e:(List.range xs.length).map (fun i=>xs.getD i 0)=xs:=by
  refine List.ext_getElem (by simp) fun i h1 h2=>?_
  simp[h2]
 have:=PyProof.Rows.firstMet_any (fun i=>xs.getD i 0) xs.length k
 rw[e] at this
 show k∈PyProof.Rows.firstMet (fun i=>xs.getD i 0) xs.length↔_
 rw[Bool.eq_iff_iff] at this
 simpa using this
theorem su:∀(ys acc:List Int),acc.Nodup->(ys.foldl PyProof.Rows.step_dedup acc).Nodup
 | [],acc,h=>h
 | y::ys,acc,h=>by
  rw[List.foldl_cons]
  refine su ys _ ?_
  unfold PyProof.Rows.step_dedup
  split
  ·exact h
  ·rename_i z
   rw[List.nodup_append]
   refine⟨h,by simp,fun a ha b hb=>?_⟩
   simp only[List.mem_singleton] at hb
   subst hb
   intro e
   subst e
   exact z (List.any_eq_true.mpr ⟨a,ha,by simp⟩)
theorem AK (xs:List Int):(unl xs).Nodup:=su _ [] List.nodup_nil
theorem m8:∀(as bs:List Int),as.Nodup->(∀a∈as,a∈bs)->as.length<=bs.length
 | [],bs,_,_=>Nat.zero_le _
 | a::as,bs,nd,s=>by
  obtain⟨h1,h2⟩:=List.nodup_cons.mp nd
  have hm:=s a List.mem_cons_self
  have ih:=m8 as (bs.erase a) h2 fun x hx=>by
   have hx':=s x (List.mem_cons_of_mem _ hx)
   have ne:x≠a:=fun e=>h1 (e ▸ hx)
   exact(List.mem_erase_of_ne ne).mpr hx'
  rw[List.length_erase_of_mem hm] at ih
  have:0<bs.length:=List.length_pos_of_mem hm
  simp only[List.length_cons]
  omega
theorem sT {xs:List Int} (h1:1<=xs.length):((xs.map D.int).all (inR 0 ((xs.length:Int) - 1))&&((unl xs).length == xs.length))=((List.range xs.length).filter fun(i:Nat)=>!(xs.any (· == (i:Int)))).isEmpty:=by
 rw[Bool.eq_iff_iff,Bool.and_eq_true,List.isEmpty_iff,List.filter_eq_nil_iff,List.all_eq_true]
 simp only[beq_iff_eq,List.mem_range,Bool.not_eq_true',Bool.not_eq_false]
 constructor
 ·intro⟨a,b⟩ i hi
  have o:Ord xs.length (unl xs):=⟨b,AK xs,fun x hx=>by
   have:=a _ (List.mem_map_of_mem (jK.mp hx));simp[inR] at this;omega,fun x hx=>by
   have:=a _ (List.mem_map_of_mem (jK.mp hx));simp[inR] at this;omega⟩
  have:=jK.mp (yK o (j:=(i:Int)) (by omega) (by omega))
  exact List.any_eq_true.mpr ⟨_,this,by simp⟩
 ·intro a
  have all:∀y∈eG 0 xs.length,y∈xs:=fun y hy=>by
   simp only[eG,List.mem_map,List.mem_range] at hy
   obtain⟨i,hi,rfl⟩:=hy
   obtain⟨z,hz,e⟩:=List.any_eq_true.mp (a i hi)
   have:z=(i:Int):=by simpa using e
   subst this
   simpa using hz
  have nd:=(hX xs.length).nd
  refine⟨fun d hd=>?_,?_⟩
  ·obtain⟨x,hx,rfl⟩:=List.mem_map.mp hd
   refine Classical.byContradiction fun z=>?_
   have z':¬ (0<=x/\x<=(xs.length:Int) - 1):=by simpa [inR] using z
   have:=m8 (eG 0 xs.length) (xs.erase x) nd fun y hy=>by
    have l:=(hX xs.length).lo y hy
    have l2:=(hX xs.length).hi y hy
    have ne:y≠x:=by omega
    exact(List.mem_erase_of_ne ne).mpr (all y hy)
   rw[fD,List.length_erase_of_mem hx] at this
   omega
  ·have:=m8 (eG 0 xs.length) (unl xs) nd fun y hy=>jK.mpr (all y hy)
   rw[fD] at this
   have:=AF xs
   omega
noncomputable def cl (s:Str):List Nat:=s.cps.toList
theorem ym {a b:Str} (h:cl a=cl b):a=b:=by
 cases a;cases b
 exact congrArg Str.mk (Array.toList_inj.mp h)
theorem n4 (a b:Str):cl (a++b)=cl a++cl b:=by
 show(a.cps++b.cps).toList=_
 rw[Array.toList_append];rfl
theorem fv (a:Str):(cl a).length=a.length:=by
 show a.cps.toList.length=a.cps.size
 exact Array.length_toList
noncomputable def jn (c:Nat):List (List Nat)->List Nat
 | []=>[]
 | [x]=>x
 | x::y::r=>x++c::jn c (y::r)
theorem jP (c:Nat):∀zs:List Str,cl (Str.join ⟨#[c]⟩ zs)=jn c (zs.map cl)
 | []=>rfl
 | [x]=>rfl
 | x::y::r=>by
  show cl (x++⟨#[c]⟩++Str.join ⟨#[c]⟩ (y::r))=cl x++c::jn c ((y::r).map cl)
  rw[n4,n4,jP c (y::r),List.append_assoc];rfl
theorem tj (sep:Str) (zs:List Str):Txt.join sep zs=Str.join sep zs:=StrLaws.glued_eq_join sep zs
noncomputable def nm (i:Int):Str:=toString i
theorem mw:(" " : Str)=⟨#[32]⟩:=by kernel_rfl
theorem rB:("\n" : Str)=⟨#[10]⟩:=by kernel_rfl
noncomputable def tx (s:Str) (xs:List Int):Str:=xs.foldl (fun s i=>s++" " ++ nm i) s
noncomputable def cE (xs:List Int):Str:=Txt.join " " (xs.map nm)
noncomputable def fY (Ls:List (List Int)):Str:=Txt.join "\n" (Ls.map cE)
section
variable {env:En} {h:Hh}
@[simp] theorem DH {f:D->List D->Hh->R D} {o:ME} {a:MA}:aT f o a env h=(o env h).bind fun x h1=>if isStr x=true then (a env h1).bind fun xs h2=>f x xs h2 else .bad:=Eq.trans rfl rfl
@[simp] theorem BP {f:D->List D->Hh->R D} {o:ME}:jG f o env h=(o env h).bind fun x h1=>if isStr x=true then f x [] h1 else .bad:=Eq.trans rfl rfl
@[simp] theorem BN {z:Str}:isStr (.str z)=true:=Eq.trans rfl rfl
noncomputable def slK (lo hi:Option Int):D->Hh->R D:=fun x h3=>match x with
 | .str z=>if z.length<=1000000 then .ok (.str (Txt.slice z lo hi)) h3 else .bad
 | _=>.bad
@[simp] theorem Cj {a:ME} {l u:MO}:bV a l u env h=(a env h).bind fun x h1=>(l env h1).bind fun lo h2=>(u env h2).bind fun hi h3=>slK lo hi x h3:=Eq.trans rfl rfl
@[simp] theorem Fq {z:Str} {lo hi:Option Int}:slK lo hi (.str z) h=if z.length<=1000000 then .ok (.str (Txt.slice z lo hi)) h else .bad:=Eq.trans rfl rfl
noncomputable def enK:D->Hh->R Src:=fun d h1=>match d with
 | .frl ds=>.ok (.snap (jd ds)) h1
 | _=>.bad
@[simp] theorem DI {a:ME}:nh a env h=(a env h).bind enK:=Eq.trans rfl rfl
@[simp] theorem Fj {ds:List D}:enK (.frl ds) h=.ok (.snap (jd ds)) h:=Eq.trans rfl rfl
@[simp] theorem qh {i:Int}:gc [.int i] h=if sml i=true then .ok (.str (nm i)) h else .bad:=Eq.trans rfl rfl
@[simp] theorem Eg {z:Str}:fZ "str" (.str z) h=.ok (.bl true) h:=Eq.trans rfl rfl
end
theorem vR {sep:Str} {zs:List Str} {h:Hh} (h1:sep.length<=16) (h2:wgt zs<=1048576):bM (.str sep) [.frl (zs.map D.str)] h=.ok (.str (Txt.join sep zs)) h:=by
 delta bM;dsimp only;rw[qG];exact if_pos ⟨h1,h2⟩
theorem rO {nl:NL} {z y:Str} {h:Hh} (hy:(y.length == 0)=false) (hz:z.length<=1000000):cz nl (.str z) [.str y] h=nl ((Txt.split z y).map D.str) h:=by
 delta cz;dsimp only;exact if_pos ⟨hy,hz⟩
theorem vv:((" " : Str).length == 0)=false/\(" " : Str).length<=16:=by decide +kernel
theorem uY:(("\n" : Str).length == 0)=false/\("\n" : Str).length<=16:=by decide +kernel
structure SmL (xs:List Int):Prop where
 ne:xs≠[]
 len:xs.length<=20
 rg:∀x∈xs,∃k:Nat,x=(k:Int)/\k<20
theorem BE {n:Nat} {xs:List Int} (o:Ord n xs) (h1:1<=n) (h2:n<=20):SmL xs:=
 ⟨fun e=>by have:=o.len;rw[e] at this;simp at this;omega,by rw[o.len];exact h2,fun x hx=>⟨x.toNat,by have:=o.lo x hx;omega,by have:=o.lo x hx;have:=o.hi x hx;omega⟩⟩
theorem SmL.sm {xs:List Int} (s:SmL xs):∀x∈xs,sml x=true:=fun x hx=>by
 obtain⟨k,rfl,hk⟩:=s.rg x hx
 exact sD (by omega) (by omega)
theorem zv:∀k:Nat,k<20->(nm k).length<=2/\(cl (nm k)).all (fun c=>decide (48<=c)&&decide (c<=57))=true:=by decide +kernel
theorem mS {b:Nat}:∀{zs:List Str},(∀z∈zs,z.length<=b)->wgt zs<=(b+1)*zs.length
 | [],_=>Nat.le_refl _
 | z::zs,k=>by
  have e:=mS (zs:=zs) fun x hx=>k x (List.mem_cons_of_mem _ hx)
  have f:=k z List.mem_cons_self
  unfold wgt at e ⊢
  rw[List.map_cons,List.sum_cons,List.length_cons,Nat.mul_add]
  omega
theorem qe {s c:Nat}:∀{xs:List (List Nat)},c∈jn s xs->c=s\/∃x∈xs,c∈x
 | [],h=>by cases h
 | [x],h=>.inr ⟨x,by simp,h⟩
 | x::y::r,h=>by
  rcases List.mem_append.mp (show c∈x++s::jn s (y::r) from h) with h | h
  ·exact .inr ⟨x,by simp,h⟩
  ·rcases List.mem_cons.mp h with h | h
   ·exact .inl h
   ·rcases qe h with h | ⟨z,hz,h⟩
    ·exact .inl h
    ·exact .inr ⟨z,List.mem_cons_of_mem _ hz,h⟩
theorem oS {c:Nat} (zs:List Str):(Txt.join ⟨#[c]⟩ zs).length<=wgt zs:=by
 rw[tj]
 have:=StrLaws.join_length_le ⟨#[c]⟩ zs
 have e:(⟨#[c]⟩:Str).length=1:=rfl
 rw[e] at this
 unfold wgt;omega
theorem Av {xs:List Int} (s:SmL xs):∀z∈xs.map nm,z.length<=2:=fun z hz=>by
 obtain⟨x,hx,rfl⟩:=List.mem_map.mp hz
 obtain⟨k,rfl,hk⟩:=s.rg x hx
 exact(zv k hk).1
theorem Be {xs:List Int} (s:SmL xs) {x:Int} (hx:x∈xs) {c:Nat} (hc:c∈cl (nm x)):48<=c/\c<=57:=by
 obtain⟨k,rfl,hk⟩:=s.rg x hx
 have:=List.all_eq_true.mp (zv k hk).2 c hc
 simpa using this
theorem wU {xs:List Int} (s:SmL xs):wgt (xs.map nm)<=60:=by
 have:=mS (Av s)
 rw[List.length_map] at this
 have:=s.len
 omega
theorem oX {xs:List Int} (s:SmL xs):(cE xs).length<=60:=by
 unfold cE;rw[mw];exact Nat.le_trans (oS _) (wU s)
theorem ya {xs:List Int} (s:SmL xs) {c:Nat} (hc:c∈cl (cE xs)):c=32\/(48<=c/\c<=57):=by
 unfold cE at hc
 rw[tj,mw,jP] at hc
 rcases qe hc with h | ⟨x,hx,h⟩
 ·exact .inl h
 ·obtain⟨z,hz,rfl⟩:=List.mem_map.mp hx
  obtain⟨i,hi,rfl⟩:=List.mem_map.mp hz
  exact .inr (Be s hi h)
structure wI (Ls:List (List Int)):Prop where
 ne:Ls≠[]
 len:Ls.length<=20
 all:∀xs∈Ls,SmL xs
theorem B_ {Ls:List (List Int)} (s:wI Ls):wgt (Ls.map cE)<=1220:=by
 have:=mS (b:=60) (zs:=Ls.map cE) fun z hz=>by
  obtain⟨x,hx,rfl⟩:=List.mem_map.mp hz
  exact oX (s.all x hx)
 rw[List.length_map] at this
 have:=s.len
 omega
theorem yY {Ls:List (List Int)} (s:wI Ls) {c:Nat} (hc:c∈cl (fY Ls)):c<=57:=by
 unfold fY at hc
 rw[tj,rB,jP] at hc
 rcases qe hc with h | ⟨x,hx,h⟩
 ·omega
 ·obtain⟨z,hz,rfl⟩:=List.mem_map.mp hx
  obtain⟨i,hi,rfl⟩:=List.mem_map.mp hz
  have:=ya (s.all i hi) h
  omega
noncomputable def Asc (z:Str):Prop:=∀c∈cl z,c<128
theorem rF {z:Str} (a:Asc z):z.cps.all (· < 128)=true:=by
 rw[<- Array.all_toList]
 exact List.all_eq_true.mpr fun c hc=>decide_eq_true (a c hc)
noncomputable def isD (c:Nat):Bool:=decide (48<=c)&&decide (c<=57)
theorem zL:∀c:Nat,c<128->Unicode.isDigit c=isD c:=by decide +kernel
theorem CS:∀c:Nat,c<128->Txt.contains "0123456789" ⟨#[c]⟩=isD c:=by decide +kernel
noncomputable def dig (w:Str):Bool:=(cl w).all isD
theorem qd {w:Str} (a:Asc w):Txt.isdigit w=(decide (0<w.length)&&dig w):=by
 unfold Txt.isdigit dig
 congr 1
 rw[<- Array.all_toList]
 show(cl w).all _=_
 rw[Bool.eq_iff_iff,List.all_eq_true,List.all_eq_true]
 exact⟨fun k c hc=>by rw[<- zL c (a c hc)];exact k c hc,fun k c hc=>by rw[zL c (a c hc)];exact k c hc⟩
noncomputable def ld0 (w:Str):Bool:=(cl w).head? == some 48&&decide (1<w.length)
noncomputable def n3 (w:Str):D:=if 1<=w.length/\w.length<=20/\dig w=true/\ld0 w=false then .int (NumText.digitsVal (cl w):Nat) else .non
theorem zz (c:Nat):((⟨#[c]⟩:Str) == ("0" : Str))=(some c == some 48):=by
 have e:("0" : Str)=⟨#[48]⟩:=by kernel_rfl
 rw[e,Bool.eq_iff_iff,beq_iff_eq,beq_iff_eq]
 constructor
 ·intro z;injection z with z;injection z with z;injection z with z _;rw[z]
 ·intro z;injection z with z;rw[z]
theorem pM {w:Str} {c:Nat} {cs:List Nat} {h:Hh} (e:cl w=c::cs) (hl:w.length<=1000):k8 (.str w) (.int 0) h=.ok (.str ⟨#[c]⟩) h:=by
 delta k8;dsimp only
 rw[if_pos (by omega)]
 have e:w.cps.toList=c::cs:=e
 have:atI w.cps.toList 0=some c:=by
  rw[e];unfold atI ixN;simp
 rw[this]
theorem wA {w:Str} {h:Hh} (d:dig w=true) (h1:1<=w.length) (h2:w.length<=20):lK [.str w] h=.ok (.int (NumText.digitsVal (cl w):Nat)) h:=by
 have e:PySem.intText? w=some ((NumText.digitsVal (cl w):Nat):Int):=PySem.intText_digits (fun c hc=>by
  have:=List.all_eq_true.mp d c hc
  simpa [isD] using this) (fun z=>by rw[<- fv] at h1;rw[show cl w=[] from z] at h1;simp at h1) (by omega)
 delta lK;dsimp only
 rw[if_pos (by omega),e]
theorem uP {w:Str} {h:Hh} (a:Asc w) (hl:w.length<=1000):aN [.str w] h=.ok (n3 w) h:=by
 have c1:w.length<=1000000:=by omega
 have e1:Txt.isascii w=true:=rF a
 have e2:=qd a
 have t1:nZ Txt.isascii (.str w) [] h=.ok (.bl true) h:=by show R.ok (D.bl (Txt.isascii w)) h=_;rw[e1]
 have t2:nZ Txt.isdigit (.str w) [] h=.ok (.bl (decide (0<w.length)&&dig w)) h:=by show R.ok (D.bl (Txt.isdigit w)) h=_;rw[e2]
 have ln:bC [.str w] h=.ok (.int w.length) h:=if_pos c1
 unfold n3
 by_cases z1:1<=w.length
 ·have z1':0<w.length:=z1
  cases z3:dig w with
  | false=>
   have t2':nZ Txt.isdigit (.str w) [] h=.ok (.bl false) h:=by rw[t2,z3,Bool.and_false]
   simp[aN,aW,t1,t2']
  | true=>
   have t2':nZ Txt.isdigit (.str w) [] h=.ok (.bl true) h:=by rw[t2,z3,decide_eq_true z1'];rfl
   by_cases z2:w.length<=20
   ·have z2':¬ (20:Int)<w.length:=by omega
    obtain⟨c,cs,ec⟩:∃c cs,cl w=c::cs:=by
     cases e:cl w with
     | nil=>rw[<- fv,e] at z1;simp at z1
     | cons c cs=>exact⟨c,cs,rfl⟩
    have fo:=pM (h:=h) ec hl
    have se:=zz c
    have io:=wA (h:=h) z3 z1 z2
    have el:ld0 w=((some c == some 48)&&decide (1<w.length)):=by unfold ld0;rw[ec];rfl
    have dl:decide ((1:Int)<w.length)=decide (1<w.length):=by rw[Bool.eq_iff_iff];simp;omega
    rw[el]
    generalize (some c == some 48)=b at se
    cases b with
    | false=>simp[aN,aW,t1,t2',ln,z2',fo,se,io,z1,z2]
    | true=>
     by_cases z4:1<w.length
     ·have z4':(1:Int)<w.length:=by omega
      simp[aN,aW,t1,t2',ln,z2',fo,se,z4,z4']
     ·have z4':¬ (1:Int)<w.length:=by omega
      simp[aN,aW,t1,t2',ln,z2',fo,se,io,z1,z2,z4,z4']
   ·have z2':(20:Int)<w.length:=by omega
    simp[aN,aW,t1,t2',ln,z2',z2]
 ·have z1':¬ 0<w.length:=z1
  have t2':nZ Txt.isdigit (.str w) [] h=.ok (.bl false) h:=by rw[t2,decide_eq_false z1'];rfl
  simp[aN,aW,t1,t2',z1]
noncomputable def stK:D->Hh->R Src:=fun d h1=>match d with
 | .str z=>if z.cps.all (· < 128)=true then .ok (.snap (km z)) h1 else .bad
 | _=>.bad
@[simp] theorem EB {env:En} {h:Hh} {a:ME}:uv a env h=(a env h).bind stK:=Eq.trans rfl rfl
theorem tE {w:Str} {h:Hh} (a:Asc w):cj (aK asB (aq hG (ag 0) (cC (.str "0123456789")))) (ag 0) (fun x=>[some x]) (km w) h=.ok (((cl w).filter fun c=>!isD c).map fun c=>D.str ⟨#[c]⟩) h:=
 comp_map (fun c=>D.str ⟨#[c]⟩) (fun c=>!isD c) (fun c=>D.str ⟨#[c]⟩) (cl w) fun c hc=>by
  have e:hG (.str ⟨#[c]⟩) (.str "0123456789") h=.ok (.bl (!isD c)) h:=by
   show R.ok (D.bl (!Txt.contains "0123456789" ⟨#[c]⟩)) h=_
   rw[CS c (a c hc)]
  refine⟨?_,fun _=>rfl⟩
  simp[e]
theorem Ac {w:Str} {c:Nat} {cs:List Nat} (e:cl w=c::cs) (hc:c=48):(w == ("0" : Str)) = !decide (1<w.length):=by
 have e0:cl ("0" : Str)=[48]:=by kernel_rfl
 rw[Bool.eq_iff_iff,beq_iff_eq,<- fv,e]
 simp
 constructor
 ·intro z;rw[z,e0] at e;injection e with _ e;rw[<- e]
 ·intro z
  apply ym
  cases cs with
  | nil=>rw[e,e0,hc]
  | cons _ _=>simp at z
theorem xH {w:Str} {h:Hh} (a:Asc w) (hl:w.length<=1000):aO [.str w] h=.ok (n3 w) h:=by
 have c1:w.length<=1000000:=by omega
 have ln:bC [.str w] h=.ok (.int w.length) h:=if_pos c1
 have bs:=tE (h:=h) a
 have sk:stK (.str w) h=.ok (.snap (km w)) h:=if_pos (rF a)
 have c2:(km w).length<=1000000:=by unfold km;rw[List.length_map,Array.length_toList];exact c1
 have em:((((cl w).filter fun c=>!isD c).map fun c=>D.str ⟨#[c]⟩).isEmpty)=dig w:=by
  rw[List.isEmpty_map,Bool.eq_iff_iff,List.isEmpty_iff,List.filter_eq_nil_iff]
  unfold dig
  rw[List.all_eq_true]
  simp
 have ne:=zD (h:=h) (xs:=((cl w).filter fun c=>!isD c).map fun c=>D.str ⟨#[c]⟩)
 rw[em] at ne
 unfold n3
 generalize ((cl w).filter fun c=>!isD c).map (fun c=>D.str ⟨#[c]⟩)=ss at bs ne
 generalize km w=sg at bs sk c2
 by_cases z1:1<=w.length
 ·have z1':(1:Int)<=w.length:=by omega
  by_cases z2:w.length<=20
  ·have z2':(w.length:Int)<=20:=by omega
   cases z3:dig w with
   | false=>
    rw[z3] at ne
    simp[aO,aW,ln,z1',z2',sk,c2,bs,ne]
   | true=>
    rw[z3] at ne
    obtain⟨c,cs,ec⟩:∃c cs,cl w=c::cs:=by
     cases e:cl w with
     | nil=>rw[<- fv,e] at z1;simp at z1
     | cons c cs=>exact⟨c,cs,rfl⟩
    have fo:=pM (h:=h) ec hl
    have se:=zz c
    have io:=wA (h:=h) z3 z1 z2
    have el:ld0 w=((some c == some 48)&&decide (1<w.length)):=by unfold ld0;rw[ec];rfl
    have n0:=Ac ec
    rw[el]
    by_cases hc:c=48
    ·have n1:=n0 hc
     have se':((⟨#[c]⟩:Str) == ("0" : Str))=true:=by rw[se,hc];rfl
     have b1:(some c == some 48)=true:=by rw[hc];rfl
     rw[b1]
     by_cases z4:1<w.length
     ·rw[decide_eq_true z4] at n1
      have n2:dNe (.str w) (.str "0") h=.ok (.bl true) h:=by rw[sF,n1];rfl
      simp[-sF,aO,aW,ln,z1',z2',sk,c2,bs,ne,fo,se',n2,z4]
     ·rw[decide_eq_false z4] at n1
      have n2:dNe (.str w) (.str "0") h=.ok (.bl false) h:=by rw[sF,n1];rfl
      simp[-sF,aO,aW,ln,z1',z2',sk,c2,bs,ne,fo,se',n2,z4,io,z1,z2]
    ·have b1:(some c == some 48)=false:=by rw[beq_eq_false_iff_ne];intro z;injection z with z;exact hc z
     rw[b1] at se ⊢
     simp[aO,aW,ln,z1',z2',sk,c2,bs,ne,fo,se,io,z1,z2]
  ·have z2':¬ (w.length:Int)<=20:=by omega
   simp[aO,aW,ln,z1',z2',z2]
 ·have z1':¬ (1:Int)<=w.length:=by omega
  simp[aO,aW,ln,z1',z1]
noncomputable abbrev tpI (xs:List Int):D:=.tup (xs.map D.int)
theorem uK {c k:Nat}:∀{xs:List (List Nat)} {x:List Nat},x∈xs->k∈x->k∈jn c xs
 | [],_,h,_=>by cases h
 | [y],x,h,hk=>by rw[List.mem_singleton] at h;subst h;exact hk
 | y::y2::r,x,h,hk=>by
  show k∈y++c::jn c (y2::r)
  rcases List.mem_cons.mp h with rfl | h
  ·exact List.mem_append_left _ hk
  ·exact List.mem_append_right _ (List.mem_cons_of_mem _ (uK h hk))
theorem tf {z:Str} {c:Nat} (a:Asc z):∀p∈Txt.split z ⟨#[c]⟩,Asc p:=fun p hp k hk=>a k (by
 have e:=StrLaws.join_split z ⟨#[c]⟩
 have e2:cl z=jn c ((Txt.split z ⟨#[c]⟩).map cl):=by rw[<- jP,e]
 rw[e2];exact uK (List.mem_map.mpr ⟨p,hp,rfl⟩) hk)
structure Tx (z:Str):Prop where
 asc:Asc z
 len:z.length<=900
theorem Tx.part {z p:Str} {c:Nat} (t:Tx z) (hp:p∈Txt.split z ⟨#[c]⟩):Tx p:=⟨tf t.asc p hp,Nat.le_trans (PyProof.Rows.part_short hp) t.len⟩
theorem Tx.many {z:Str} {c:Nat} (t:Tx z):(Txt.split z ⟨#[c]⟩).length<=1000:=by have:=PyProof.Rows.split_le z ⟨#[c]⟩;have:=t.len;omega
noncomputable def bH (r:Str):List D:=(Txt.split r " ").map n3
theorem vJ {r:Str} {h:Hh} (t:Tx r):cj tt1 (ah aN (aa (ag 0) ai)) (fun x=>[some x]) ((Txt.split r " ").map D.str) h=.ok (bH r) h:=by
 unfold bH
 rw[mw]
 exact j8 D.str n3 (Txt.split r ⟨#[32]⟩) fun p hp=>by
  have tp:=t.part hp
  have:=uP (h:=h) tp.asc (by have:=tp.len;omega)
  simp[this]
theorem CJ {r:Str} {h:Hh} (t:Tx r):cj tt1 (ah aO (aa (ag 0) ai)) (fun x=>[some x]) ((Txt.split r " ").map D.str) h=.ok (bH r) h:=by
 unfold bH
 rw[mw]
 exact j8 D.str n3 (Txt.split r ⟨#[32]⟩) fun p hp=>by
  have tp:=t.part hp
  have:=xH (h:=h) tp.asc (by have:=tp.len;omega)
  simp[this]
noncomputable def IN (d:D):Prop:=d=.non\/∃i,d=.int i
theorem yd (w:Str):IN (n3 w):=by unfold n3;split;exact .inr ⟨_,rfl⟩;exact .inl rfl
theorem jJ (r:Str):∀d∈bH r,IN d:=fun d hd=>by obtain⟨w,_,rfl⟩:=List.mem_map.mp hd;exact yd w
theorem we (r:Str):1<=(bH r).length:=by unfold bH;rw[List.length_map];exact PyProof.Rows.split_pos r " "
theorem IN.it {d:D} (k:IN d):itm d=true:=by rcases k with rfl | ⟨i,rfl⟩<;>rfl
theorem IN.flat {d:D} (k:IN d):dj d=true:=by rcases k with rfl | ⟨i,rfl⟩<;>rfl
noncomputable def eE (ds:List D) (i:Nat):Bool:=!(ds.any fun d=>eqF d (.int i))
theorem Ak {ds:List D} {h:Hh} (k:∀d∈ds,IN d):cj (aK asB (aq (dIn true) (ag 0) (ag 1))) (ag 0) (fun x=>[some x,some (.frl ds)]) (bL 0 ds.length) h=.ok (((List.range ds.length).filter (eE ds)).map fun(i:Nat)=>D.int i) h:=
 uM (eE ds) (fun(i:Nat)=>D.int i) fun i hi=>by
  have e:dIn true (.int (i:Nat)) (.frl ds) h=.ok (.bl (eE ds i)) h:=by
   unfold dIn
   show(if dj (.int (i:Nat))=true/\ds.all dj=true then R.ok (D.bl (if true then !(ds.any fun d=>eqF d (.int i)) else _)) h else R.bad)=_
   rw[if_pos ⟨rfl,List.all_eq_true.mpr fun d hd=>(k d hd).flat⟩];rfl
  exact⟨by simp[e],fun _=>rfl⟩
theorem AD {ds:List D} (k:∀d∈ds,IN d) (h1:1<=ds.length):ogB ds=(decide (ds.length<=20)&&((List.range ds.length).filter (eE ds)).isEmpty):=by
 by_cases a:ds.all isI=true
 ·have e:=jQ a
  generalize hx:ds.map eL=xs at e
  subst e
  rw[List.length_map] at h1
  have p:=sT h1
  have vi:(xs.map D.int).map eL=xs:=hx
  have lp:eE (xs.map D.int)=fun(i:Nat)=>!(xs.any (· == (i:Int))):=by funext i;unfold eE;rw[rQ]
  unfold ogB
  rw[vi,lp,List.length_map,p]
  congr 1
  rw[Bool.eq_iff_iff];simp;omega
 ·have a':ds.all isI=false:=by simpa using a
  obtain⟨d,hd,hi⟩:=List.all_eq_false.mp a'
  have ob:ogB ds=false:=by
   unfold ogB
   cases z:ds.all (inR 0 ((ds.length:Int) - 1)) with
   | false=>rw[Bool.false_and,Bool.and_false]
   | true=>exact absurd (nL z) a
  rw[ob]
  symm
  rw[Bool.and_eq_false_iff]
  right
  cases z:((List.range ds.length).filter (eE ds)).isEmpty with
  | false=>rfl
  | true=>
   exfalso
   rw[List.isEmpty_iff,List.filter_eq_nil_iff] at z
   have bl:((ds.filter isI).map eL).length<ds.length:=by
    rw[List.length_map]
    exact List.length_filter_lt_length_iff_exists.mpr ⟨d,hd,hi⟩
   have sub:=m8 ((List.range ds.length).map fun(i:Nat)=>(i:Int)) ((ds.filter isI).map eL) (List.Pairwise.map (fun(i:Nat)=>(i:Int)) (fun a b h e=>h (by have e:(a:Int)=b:=e;omega)) List.nodup_range) (fun x hx=>by
    obtain⟨i,hi,rfl⟩:=List.mem_map.mp hx
    have:=z i hi
    unfold eE at this
    simp only[Bool.not_eq_true',Bool.not_eq_false,List.any_eq_true] at this
    obtain⟨e,he,q⟩:=this
    rcases k e he with rfl | ⟨j,rfl⟩
    ·cases q
    ·have q:j=(i:Int):=by simpa [eqF] using q
     exact List.mem_map.mpr ⟨.int j,List.mem_filter.mpr ⟨he,rfl⟩,q⟩)
   rw[List.length_map,List.length_range] at sub
   omega
noncomputable def j0:Nat->List (List Int)->List Str->List (List Int) ⊕ Int
 | _,P,[]=>.inl P
 | i,P,r::rs=>if i<20/\ogB (bH r)=true then j0 (i+1) (P++[(bH r).map eL]) rs else .inr ((i+1:Nat):Int)
noncomputable def zi:List (List Int) ⊕ Int->D
 | .inl Ls=>.frl (Ls.map tpI)
 | .inr k=>.tup [.str "text", .int k]
theorem xM {ds:List D} (o:ogB ds=true):ds=(ds.map eL).map D.int:=by
 unfold ogB at o
 simp only[Bool.and_eq_true] at o
 exact jQ (nL o.2.1)
theorem Dc {ds:List D} (o:ogB ds=true):SmL (ds.map eL):=by
 unfold ogB at o
 simp only[Bool.and_eq_true,decide_eq_true_eq] at o
 obtain⟨⟨l1,l2⟩,al,_⟩:=o
 refine⟨fun e=>?_,by rw[List.length_map];omega,fun x hx=>?_⟩
 ·rw[List.map_eq_nil_iff] at e;rw[e] at l1;simp at l1
 ·obtain⟨d,hd,rfl⟩:=List.mem_map.mp hx
  have q:=List.all_eq_true.mp al d hd
  cases d with
  | int i=>
   have q:0<=i/\i<=(ds.length:Int) - 1:=by simpa [inR] using q
   exact⟨i.toNat,by show i=_;omega,by show i.toNat<20;omega⟩
  | _=>cases q
theorem wJ:∀(rs:List Str) (i:Nat) (P:List (List Int)),P.length=i->i<=20->(∀xs∈P,SmL xs)->match j0 i P rs with
  | .inl Ls=>Ls.length<=20/\∀xs∈Ls,SmL xs
  | .inr k=>0<=k/\k<=21
 | [],i,P,hi,hl,a=>⟨by omega,a⟩
 | r::rs,i,P,hi,hl,a=>by
  unfold j0
  by_cases z:i<20/\ogB (bH r)=true
  ·rw[if_pos z]
   refine wJ rs (i+1) (P++[(bH r).map eL]) (by rw[List.length_append,hi];rfl) (by omega) fun xs hx=>?_
   rcases List.mem_append.mp hx with hx | hx
   ·exact a xs hx
   ·rw[List.mem_singleton] at hx;subst hx;exact Dc z.2
  ·rw[if_neg z]
   exact⟨by omega,by omega⟩
noncomputable def ens:Nat->List Str->List D
 | _,[]=>[]
 | i,z::zs=>.tup [.int ((i+1:Nat):Int),.str z]::ens (i+1) zs
theorem sy:∀(zs:List Str) (i j:Nat),(ens i zs)[j]?=zs[j]?.map fun z=>D.tup [.int ((i+j+1:Nat):Int),.str z]
 | [],_,_=>rfl
 | z::zs,i,0=>rfl
 | z::zs,i,j+1=>by
  show(ens (i+1) zs)[j]?=zs[j]?.map _
  rw[sy zs (i+1) j,show i+1+j+1=i+(j+1)+1 by omega]
theorem sN (zs:List Str):jd (zs.map D.str)=ens 0 zs:=by
 apply List.ext_getElem?
 intro j
 rw[lH,sy,List.getElem?_map,Option.map_map,Nat.zero_add];rfl
theorem rz:∀(zs:List Str) (i:Nat),(ens i zs).length=zs.length
 | [],_=>rfl
 | z::zs,i=>by show(ens (i+1) zs).length+1=_;rw[rz];rfl
theorem By {k:Nat} (Ls:List (List Int)):bU k (Ls.map tpI)=true:=iK fun xs=>by show bU k _=true;exact rk
theorem j7 {env:En} {h:Hh} {x f:Str} {mr:MA} {k:Int} (e:mr env h=.ok [.int k] h):dW x [f] mr env h=.err ⟨x,[(f,k)]⟩ h:=by
 unfold dW;rw[e];rfl
theorem zp {ds:List D} {h:Hh} (k:∀d∈ds,IN d) (w:Wf h):bJ [.tup ds] h=.ok (.bl (ogB ds)) h:=
 x_ (d:=.tup ds) ⟨rfl,fun es e=>by cases e;exact⟨fun x hx=>(k x hx).it,trivial⟩⟩ w
noncomputable def RDE:MS:=(aF (up (bB 4 (ah eN (aa (ck au (cB (aT (cz au) (ag 3) (aa (cC (.str " ")) ai))) [] tt1 (ah aN (aa (ag 0) ai))) ai))))
  (aF (dC (up (g8 (aK asB (aq dGt (ag 2) (cC (.int 20)))) (dk (aK hZ (ah bJ (aa (ag 4) ai)))))) (dW "NoText" ["row"] (aa (up (ag 2)) ai)) b8)
  (up (dm (bo bb (ag 1) (aa (ag 4) ai))))))
section
variable {h:Hh} {r:Str} {i:Nat} {d0 y2 y3 y4:Option D}
theorem rm {H:Hh} (t:Tx r):cz au (.str r) [.str " "] H=.ok (.frl ((Txt.split r " ").map D.str)) H:=by
 rw[rO vv.1 (by have:=t.len;omega)];rfl
theorem nN (t:Tx r):((Txt.split r " ").map D.str).length<=1000000:=by
 rw[List.length_map,mw];have:=t.many (c:=32);omega
theorem De {P:List D} (t:Tx r) (w:Wf (h++[.lst P])) (hi:i<20) (hp:P.length<1000) (o:ogB (bH r)=true) :
  (gT2 2 3 (.tup [.int ((i+1:Nat):Int),.str r]) [d0,some (.ref h.length),y2,y3,y4] (h++[.lst P])).bind RDE=.ok (.nx [d0,some (.ref h.length),some (.int ((i+1:Nat):Int)),some (.str r),some (.tup (bH r))]) (h++[.lst (P++[.tup (bH r)])]):=by
 have q:=vJ (h:=h++[.lst P]) t
 have g:=zp (jJ r) w
 rw[o] at g
 have sp:=rm (H:=h++[.lst P]) t
 have c2:=nN t
 have c3:¬ (20<((i+1:Nat):Int)):=by omega
 have c4:P.length<1000000:=by omega
 generalize ((i+1:Nat):Int)=I at c3 ⊢
 generalize (Txt.split r " ").map D.str=zs at q c2 sp
 generalize bH r=ys at q g ⊢
 simp[RDE,sp,q,g,c2,c3,c4]
theorem Du {P:List D} (t:Tx r) (w:Wf (h++[.lst P])) (o:¬ (i<20/\ogB (bH r)=true)) :
  (gT2 2 3 (.tup [.int ((i+1:Nat):Int),.str r]) [d0,some (.ref h.length),y2,y3,y4] (h++[.lst P])).bind RDE=.err ⟨"NoText", [("row", ((i+1:Nat):Int))]⟩ (h++[.lst P]):=by
 have q:=vJ (h:=h++[.lst P]) t
 have g:=zp (jJ r) w
 have sp:=rm (H:=h++[.lst P]) t
 have c2:=nN t
 by_cases hi:i<20
 ·have ob:ogB (bH r)=false:=by
   cases z:ogB (bH r) with
   | false=>rfl
   | true=>exact absurd ⟨hi,z⟩ o
  rw[ob] at g
  have c3:¬ (20<((i+1:Nat):Int)):=by omega
  generalize ((i+1:Nat):Int)=I at c3 ⊢
  generalize (Txt.split r " ").map D.str=zs at q c2 sp
  generalize bH r=ys at q g
  have er:=j7 (x:="NoText") (f:="row") (mr:=aa (up (ag 2)) ai) (env:=[d0,some (.ref h.length),some (.int I),some (.str r),some (.tup ys)]) (h:=h++[.lst P]) (k:=I) rfl
  simp[RDE,sp,q,g,c2,c3,er]
 ·have c3:20<((i+1:Nat):Int):=by omega
  generalize ((i+1:Nat):Int)=I at c3 ⊢
  generalize (Txt.split r " ").map D.str=zs at q c2 sp
  generalize bH r=ys at q g
  have er:=j7 (x:="NoText") (f:="row") (mr:=aa (up (ag 2)) ai) (env:=[d0,some (.ref h.length),some (.int I),some (.str r),some (.tup ys)]) (h:=h++[.lst P]) (k:=I) rfl
  simp[RDE,sp,q,c2,c3,er]
noncomputable def LDB:MS:=(aF (bB 3 (ck au (cB (aT (cz au) (ag 2) (aa (cC (.str " ")) ai))) [] tt1 (ah aO (aa (ag 0) ai))))
  (aF (bB 4 (ck au (gu eW (aa (ah bC (aa (ag 3) ai)) ai)) [3] (aK asB (aq (dIn true) (ag 0) (ag 1))) (ag 0)))
  (aF (dC (g8 (aK asB (aq dGt (ah bC (aa (ag 3) ai)) (cC (.int 20)))) (g8 (aK asB (aq dNe (ag 4) (ah (bg au) ai))) (aK asB (aq dEq (ah bC (aa (ag 1) ai)) (cC (.int 20)))))) (bD (ah eV (aa (cC (.str "text")) (aa (aq (aL au) (ah bC (aa (ag 1) ai)) (cC (.int 1))) ai)))) b8)
  (dm (bo bb (ag 1) (aa (ah eN (aa (ag 3) ai)) ai))))))
theorem yk (t:Tx r):(bH r).length<=1000:=by unfold bH;rw[List.length_map,mw];exact t.many
theorem Dh {P:List D} (t:Tx r) (hp:P.length=i) (hi:i<=20) :
  (gN 2 (.str r) [d0,some (.ref h.length),y2,y3,y4] (h++[.lst P])).bind LDB=if i<20/\ogB (bH r)=true then .ok (.nx [d0,some (.ref h.length),some (.str r),some (.frl (bH r)),some (.frl (((List.range (bH r).length).filter (eE (bH r))).map fun(i:Nat)=>D.int i))]) (h++[.lst (P++[.tup (bH r)])]) else .ok (.rt (.tup [.str "text", .int ((i+1:Nat):Int)])) (h++[.lst P]):=by
 have q:=CJ (h:=h++[.lst P]) t
 have sp:=rm (H:=h++[.lst P]) t
 have c2:=nN t
 have kl:=Ak (h:=h++[.lst P]) (jJ r)
 have og:=AD (jJ r) (we r)
 have c5:=yk t
 have c4:P.length<1000000:=by omega
 have em:(((List.range (bH r).length).filter (eE (bH r))).map fun(i:Nat)=>D.int i).isEmpty=((List.range (bH r).length).filter (eE (bH r))).isEmpty:=List.isEmpty_map
 rw[<- em] at og
 have ne:=zD (h:=h++[.lst P]) (xs:=((List.range (bH r).length).filter (eE (bH r))).map fun(i:Nat)=>D.int i)
 have ei:((i+1:Nat):Int)=(P.length:Int)+1:=by omega
 rw[ei]
 generalize ((List.range (bH r).length).filter (eE (bH r))).map (fun(i:Nat)=>D.int i)=LK at kl ne og ⊢
 generalize (Txt.split r " ").map D.str=zs at q c2 sp
 generalize bH r=ys at q kl og c5 ⊢
 have c6:ys.length<=1000000:=by omega
 by_cases z1:ys.length<=20
 ·have z1':¬ (20:Int)<ys.length:=by omega
  rw[decide_eq_true z1,Bool.true_and] at og
  cases z2:LK.isEmpty with
  | false=>
   rw[z2] at ne og
   simp[LDB,sp,q,kl,ne,og,c2,c6,z1']
  | true=>
   rw[z2] at ne og
   by_cases z3:i<20
   ·have z3':((P.length:Int) == 20)=false:=by rw[beq_eq_false_iff_ne];omega
    simp[LDB,sp,q,kl,ne,og,c2,c6,z1',z3',z3,c4]
   ·have z3':((P.length:Int) == 20)=true:=by rw[beq_iff_eq];omega
    simp[LDB,sp,q,kl,ne,og,c2,c6,z1',z3',z3]
 ·have z1':(20:Int)<ys.length:=by omega
  rw[decide_eq_false z1,Bool.false_and] at og
  simp[LDB,sp,q,kl,og,c2,c6,z1']
end
theorem uN {P:List (List Int)} {ds:List D} (o:ogB ds=true):(P++[ds.map eL]).map tpI=P.map tpI++[.tup ds]:=by
 rw[List.map_append]
 show P.map tpI++[D.tup ((ds.map eL).map D.int)]=_
 rw[<- xM o]
theorem rV {h:Hh} {d0:Option D} (w:Wf h):∀(rs:List Str) (i:Nat) (P:List (List Int)) (y2 y3 y4:Option D),P.length=i->i<=20->(∀r∈rs,Tx r) →
  match j0 i P rs with
  | .inl Ls=>∃z2 z3 z4,cS (gT2 2 3) RDE (ens i rs) [d0,some (.ref h.length),y2,y3,y4] (h++[.lst (P.map tpI)])=.ok (.nx [d0,some (.ref h.length),z2,z3,z4]) (h++[.lst (Ls.map tpI)])
  | .inr k=>∃t,cS (gT2 2 3) RDE (ens i rs) [d0,some (.ref h.length),y2,y3,y4] (h++[.lst (P.map tpI)])=.err ⟨"NoText", [("row", k)]⟩ (h++t)
 | [],i,P,y2,y3,y4,_,_,_=>⟨y2,y3,y4,rfl⟩
 | r::rs,i,P,y2,y3,y4,hp,hi,k=>by
  have tr:=k r List.mem_cons_self
  have w1:Wf (h++[.lst (P.map tpI)]):=w.app (By P)
  have fc:cS (gT2 2 3) RDE (ens i (r::rs)) [d0,some (.ref h.length),y2,y3,y4] (h++[.lst (P.map tpI)])=((gT2 2 3 (.tup [.int ((i+1:Nat):Int),.str r]) [d0,some (.ref h.length),y2,y3,y4] (h++[.lst (P.map tpI)])).bind RDE).bind (uQ (gT2 2 3) RDE (ens (i+1) rs)):=by
   show cS (gT2 2 3) RDE (.tup [.int ((i+1:Nat):Int),.str r]::ens (i+1) rs) _ _=_
   rw[eD,<- bp]
  rw[fc]
  unfold j0
  by_cases z:i<20/\ogB (bH r)=true
  ·rw[if_pos z,De tr w1 z.1 (by rw[List.length_map];omega) z.2,aZ,lZ,<- uN z.2]
   exact rV w rs (i+1) (P++[(bH r).map eL]) _ _ _ (by rw[List.length_append,hp];rfl) (by omega) fun x hx=>k x (List.mem_cons_of_mem _ hx)
  ·rw[if_neg z,Du tr w1 z]
   exact⟨_,rfl⟩
theorem o9 {h:Hh} {d0:Option D}:∀(rs:List Str) (i:Nat) (P:List (List Int)) (y2 y3 y4:Option D),P.length=i->i<=20->(∀r∈rs,Tx r) →
  match j0 i P rs with
  | .inl Ls=>∃z2 z3 z4,cS (gN 2) LDB (rs.map D.str) [d0,some (.ref h.length),y2,y3,y4] (h++[.lst (P.map tpI)])=.ok (.nx [d0,some (.ref h.length),z2,z3,z4]) (h++[.lst (Ls.map tpI)])
  | .inr k=>∃t,cS (gN 2) LDB (rs.map D.str) [d0,some (.ref h.length),y2,y3,y4] (h++[.lst (P.map tpI)])=.ok (.rt (.tup [.str "text", .int k])) (h++t)
 | [],i,P,y2,y3,y4,_,_,_=>⟨y2,y3,y4,rfl⟩
 | r::rs,i,P,y2,y3,y4,hp,hi,k=>by
  have tr:=k r List.mem_cons_self
  have fc:cS (gN 2) LDB ((r::rs).map D.str) [d0,some (.ref h.length),y2,y3,y4] (h++[.lst (P.map tpI)])=((gN 2 (.str r) [d0,some (.ref h.length),y2,y3,y4] (h++[.lst (P.map tpI)])).bind LDB).bind (uQ (gN 2) LDB (rs.map D.str)):=by
   rw[List.map_cons,eD,<- bp]
  rw[fc,Dh tr (by rw[List.length_map];exact hp) hi]
  unfold j0
  by_cases z:i<20/\ogB (bH r)=true
  ·rw[if_pos z,if_pos z,aZ,lZ,<- uN z.2]
   exact o9 rs (i+1) (P++[(bH r).map eL]) _ _ _ (by rw[List.length_append,hp];rfl) (by omega) fun x hx=>k x (List.mem_cons_of_mem _ hx)
  ·rw[if_neg z,if_neg z,aZ,C8]
   exact⟨_,rfl⟩
theorem ph (Ls:List (List Int)):(Ls.map tpI).all (deep 7)=true:=by
 rw[List.all_map,List.all_eq_true]
 intro xs _
 show(xs.map D.int).all (deep 6)=true
 rw[List.all_map,List.all_eq_true]
 intro x _
 rfl
noncomputable def rows (z:Str):List Str:=Txt.split z "\n"
theorem r_ {z:Str} (t:Tx z):∀r∈rows z,Tx r:=fun r hr=>by unfold rows at hr;rw[rB] at hr;exact t.part hr
noncomputable def res (z:Str):List (List Int) ⊕ Int:=j0 0 [] (rows z)
theorem Dj {z:Str} {H:Hh} (t:Tx z):cz au (.str z) [.str "\n"] H=.ok (.frl ((rows z).map D.str)) H:=by
 rw[rO uY.1 (by have:=t.len;omega)];rfl
theorem pW {z:Str} (t:Tx z):(rows z).length<=1000:=by unfold rows;rw[rB];exact t.many
theorem Bm:cO=fun ds h=>((cI 5 (aF (bB 1 (ah (bg dO) ai))
  (aF (dN (cB (aT (cz au) (ag 0) (aa (cC (.str "\n")) ai))) (gN 2) LDB)
  (bD (ag 1))))) ds h).bind (bZ h):=rfl
theorem BU {z:Str} {h:Hh} (t:Tx z) (w:Wf h):cO [.str z] h=.ok (zi (res z)) h:=by
 have q:=o9 (h:=h) (d0:=some (.str z)) (rows z) 0 [] none none none rfl (by decide) (r_ t)
 have sp:=Dj (H:=h++[.lst []]) t
 have c2:((rows z).map D.str).length<=1000000:=by rw[List.length_map];have:=pW t;omega
 rw[Bm]
 unfold res
 generalize (rows z).map D.str=zs at q sp c2
 cases e:j0 0 [] (rows z) with
 | inl Ls=>
  rw[e] at q
  obtain⟨z2,z3,z4,q⟩:=q
  have ex:=l_ (h:=h) (ds:=Ls.map tpI) (t:=[]) w (ph Ls)
  simp only[List.map_nil] at q
  show _=R.ok (D.frl (Ls.map tpI)) h
  generalize Ls.map tpI=ts at q ex ⊢
  simp[aW,sp,q,c2,ex]
 | inr k=>
  rw[e] at q
  obtain⟨u,q⟩:=q
  have ex:=dy (h:=h) (d:=.tup [.str "text", .int k]) (t:=u) w rfl
  simp only[List.map_nil] at q
  show _=R.ok (D.tup [.str "text", .int k]) h
  simp[aW,sp,q,c2,ex]
theorem qf:aU=fun ds h=>((cI 5 (aF (dC (up (dk (aK hZ (cUn (fZ "str") (ag 0))))) (dW "NoText" ["row"] (aa (up (cC (.int 0))) ai)) b8)
  (aF (up (bB 1 (ah (bg dO) ai)))
  (aF (dN (nh (up (aT (cz au) (ag 0) (aa (cC (.str "\n")) ai)))) (gT2 2 3) RDE)
  (up (bD (ag 1))))))) ds h).bind (bZ h):=rfl
theorem El {z:Str} {h:Hh} (t:Tx z) (w:Wf h):match res z with
  | .inl Ls=>aU [.str z] h=.ok (.frl (Ls.map tpI)) h
  | .inr k=>∃u,aU [.str z] h=.err ⟨"NoText", [("row", k)]⟩ (h++u):=by
 have q:=rV (h:=h) (d0:=some (.str z)) w (rows z) 0 [] none none none rfl (by decide) (r_ t)
 have sp:=Dj (H:=h++[.lst []]) t
 have c2:(ens 0 (rows z)).length<=1000000:=by rw[rz];have:=pW t;omega
 have ee:=sN (rows z)
 unfold res
 generalize (rows z).map D.str=zs at sp ee
 generalize ens 0 (rows z)=es at q ee c2
 cases e:j0 0 [] (rows z) with
 | inl Ls=>
  rw[e] at q
  obtain⟨z2,z3,z4,q⟩:=q
  have ex:=l_ (h:=h) (ds:=Ls.map tpI) (t:=[]) w (ph Ls)
  simp only[List.map_nil] at q
  show aU [.str z] h=R.ok (.frl (Ls.map tpI)) h
  rw[qf]
  generalize Ls.map tpI=ts at q ex ⊢
  simp[aW,sp,ee,q,c2,ex]
 | inr k=>
  rw[e] at q
  obtain⟨u,q⟩:=q
  simp only[List.map_nil] at q
  refine⟨u,?_⟩
  rw[qf]
  simp[aW,sp,ee,q,c2]
theorem Ar {env:En} {h u:Hh} {mb:MS} {mr:MF} {x:Xc} {d:D} (w:Wf h) (e:mb env h=.err x (h++u)) (c:aV.contains x.cls=true) (r:mr [.exc x.cls x.fs] h=.ok d h):ku mb mr env h=.ok (.rt d) h:=by
 unfold ku
 rw[e]
 have e2:(h++u).take h.length=h:=List.take_left' rfl
 have w':h.all (gD h.length)=true:=w
 show(if (aV.contains x.cls&&((h++u).take h.length).all (gD h.length))=true then _ else _)=_
 rw[c,e2,w',r]
 rfl
theorem CD {k:Int} {h:Hh}:a_ [.exc "NoText" [("row", k)]] h=.ok (.tup [.str "text", .int k]) h:=by kernel_rfl
noncomputable def TBr:MS:=bD (ah aU (aa (up (ag 0)) ai))
theorem om:bw=cI 2 (ku TBr a_):=rfl
theorem zX {z:Str} {h:Hh} (t:Tx z) (w:Wf h):bw [.str z] h=.ok (zi (res z)) h:=by
 have q:=El t w
 cases e:res z with
 | inl Ls=>
  rw[e] at q
  have q:aU [.str z] h=.ok (.frl (Ls.map tpI)) h:=q
  show _=R.ok (D.frl (Ls.map tpI)) h
  have b:TBr [some (.str z),none] h=.ok (.rt (.frl (Ls.map tpI))) h:=by
   generalize Ls.map tpI=ts at q ⊢
   simp[TBr,q]
  have tq:=Bk (mr:=a_) b
  rw[om];simp[aW,tq]
 | inr k=>
  rw[e] at q
  obtain⟨u,q⟩:=q
  show _=R.ok (D.tup [.str "text", .int k]) h
  have b:TBr [some (.str z),none] h=.err ⟨"NoText", [("row", k)]⟩ (h++u):=by simp[TBr,q]
  have tq:=Ar (mr:=a_) w b (show aV.contains ("NoText" : Str)=true by decide) CD
  rw[om];simp[aW,tq]
theorem yz {d:D} {h:Hh} (n:fZ "str" d h=.ok (.bl false) h) (w:Wf h):bw [d] h=.ok (.tup [.str "text", .int 0]) h:=by
 have er:=j7 (x:="NoText") (f:="row") (mr:=aa (up (cC (.int 0))) ai) (env:=[some d,none,none,none,none]) (h:=h) (k:=0) rfl
 have q:aU [d] h=.err ⟨"NoText", [("row", 0)]⟩ h:=by rw[qf];simp[aW,n,er]
 have b:TBr [some d,none] h=.err ⟨"NoText", [("row", 0)]⟩ h:=by simp[TBr,q]
 have tq:=A9 (mr:=a_) w b (by decide) CD
 rw[om];simp[aW,tq]
noncomputable def pyT (xs:List Int):PyData:=.tuple (xs.map PyData.int)
theorem pw {k:Nat} {h:Hh}:∀{Ls:List (List Int)},(∀xs∈Ls,SmL xs)->bj (toPy (k+2) h) (Ls.map tpI)=some (Ls.map pyT)
 | [],_=>rfl
 | xs::Ls,a=>by
  have e1:toPy (k+2) h (tpI xs)=some (pyT xs):=by
   show(bj (toPy (k+1) h) (xs.map D.int)).map PyData.tuple=_
   rw[kg (a xs List.mem_cons_self).sm];rfl
  rw[List.map_cons,bj,e1,pw fun x hx=>a x (List.mem_cons_of_mem _ hx)];rfl
theorem rY:∀{Ls:List (List Int)},(∀xs∈Ls,SmL xs)->PyData.bulkAll (Ls.map pyT)<=21*Ls.length
 | [],_=>by simp[PyData.bulkAll]
 | xs::Ls,a=>by
  have l:=(a xs List.mem_cons_self).len
  have b:=rY fun x hx=>a x (List.mem_cons_of_mem _ hx)
  rw[List.map_cons,PyData.bulkAll,pyT,PyData.bulk,lY,List.length_cons]
  omega
noncomputable def Ey (Ls:List (List Int)):Str:=(PyData.list (Ls.map pyT)).shown
theorem wa {Ls:List (List Int)} {h:Hh} (o:∀xs∈Ls,SmL xs) (hl:Ls.length<=100):ek [.frl (Ls.map tpI)] h=.ok (.str (Ey Ls)) h:=
 pj (pQ (show m_ (.frl (Ls.map tpI)) h=_ from by
  delta m_
  rw[show toPy 12 h (.frl (Ls.map tpI))=some (.list (Ls.map pyT)) by show(bj (toPy 11 h) _).map PyData.list=_;rw[pw (k:=9) o];rfl]
  exact if_pos (by rw[PyData.bulk];have:=rY o;omega)))
noncomputable def txB (z:Str):Bool:=(cl z).all (fun c=>decide (c<128))&&decide (z.length<=900)
theorem l5 {z:Str} (e:txB z=true):Tx z:=by
 unfold txB at e
 rw[Bool.and_eq_true,List.all_eq_true,decide_eq_true_eq] at e
 exact⟨fun c hc=>by have:=e.1 c hc;simpa using this,e.2⟩
theorem sP {x:Str} {l u:Option Int} {c:Nat} (h:c∈cl (Txt.slice x l u)):c∈cl x:=by
 unfold Txt.slice at h
 split at h
 ·exact h
 ·have h:c∈((Builtin.Str.strSliceIndices l u 1 x.length).filterMap (x.cps[·]?)):=by simpa [cl] using h
  obtain⟨i,_,e⟩:=List.mem_filterMap.mp h
  have:=Array.mem_of_getElem? e
  simpa [cl] using this
theorem cY (a b:Str):(a++b).length=a.length+b.length:=by
 rw[<- fv,n4,List.length_append,fv,fv]
theorem Asc.app {a b:Str} (h1:Asc a) (h2:Asc b):Asc (a++b):=fun c hc=>by
 rw[n4] at hc
 rcases List.mem_append.mp hc with hc | hc
 ·exact h1 c hc
 ·exact h2 c hc
structure Ty (z:Str):Prop where
 asc:Asc z
 len:z.length<=250
theorem Ty.tx {z:Str} (t:Ty z):Tx z:=⟨t.asc,by have:=t.len;omega⟩
theorem Ty.cut {z:Str} (t:Ty z) (l u:Option Int):Ty (Txt.slice z l u):=⟨fun c hc=>t.asc c (sP hc),Nat.le_trans (Txt.slice_le z l u) t.len⟩
theorem Ty.app {a b:Str} (h1:Ty a) (h2:Ty b):Tx (a++b):=⟨h1.asc.app h2.asc,by rw[cY];have:=h1.len;have:=h2.len;omega⟩
theorem CA {a b c:Str} (h1:Ty a) (h2:Ty b) (h3:Ty c):Tx (a++b++c):=⟨(h1.asc.app h2.asc).app h3.asc,by rw[cY,cY];have:=h1.len;have:=h2.len;have:=h3.len;omega⟩
theorem sE {z:Str} (e:txB z=true) (l:z.length<=250):Ty z:=⟨(l5 e).asc,l⟩
theorem AI {xs:List Int} {h:Hh} (s:SmL xs):bx [tpI xs] h=.ok (.str (cE xs)) h:=by
 have q:cj tt1 (ah gc (aa (ag 0) ai)) (fun x=>[some x]) (xs.map D.int) h=.ok ((xs.map nm).map D.str) h:=by
  rw[j8 D.int (fun i=>D.str (nm i)) xs fun x hx=>by simp[s.sm x hx,-L2.FE.qh,FC.qh],List.map_map];rfl
 have c3:xs.length<=1000000:=by have:=s.len;omega
 have c4:wgt (xs.map nm)<=1048576:=Nat.le_trans (wU s) (by decide)
 unfold cE
 generalize xs.map nm=zs at q c4 ⊢
 simp[bx,aW,q,c3,vR vv.2 c4]
theorem zh {Ls:List (List Int)} (s:wI Ls) (h4:Ls.length<=4):Ty (fY Ls):=by
 refine⟨fun c hc=>by have:=yY s hc;omega,?_⟩
 have w:=mS (b:=60) (zs:=Ls.map cE) fun z hz=>by
  obtain⟨x,hx,rfl⟩:=List.mem_map.mp hz
  exact oX (s.all x hx)
 rw[List.length_map] at w
 have:(fY Ls).length<=wgt (Ls.map cE):=by unfold fY;rw[rB];exact oS _
 omega
structure St (H:Hh) (m n:Nat) (p:Pen) (Ts:List Str):Prop where
 pn:av H m=some (bF p)
 ls:av H n=some (Ts.map D.str)
 ne:m≠n
 wf:Wf H
 tx:∀z∈Ts,Tx z
theorem wX {h:Hh} {a b:Nat} {o:O} (n:a≠b):av (h.set a o) b=av h b:=by
 unfold av;rw[List.getElem?_set_ne n]
theorem jT {k:Nat} (zs:List Str):bU k (zs.map D.str)=true:=iK fun _=>rfl
theorem sf {H:Hh} {m n:Nat} {p:Pen} {Ts:List Str} {M:Int} (s:St H m n p Ts) (hm:0<M) (hm2:M<=10 ^ 20):∃(k:Nat) (H':Hh) (p':Pen),az [.ref m,.int M] H=.ok (.int k) H'/\(k:Int)<M/\St H' m n p' Ts:=by
 obtain⟨k,e,b⟩:=u9 p M hm
 refine⟨k,_,cK p M,by rw[qx s.pn hm hm2,e],b,hW s.pn,?_,s.ne,rf s.wf rfl,s.tx⟩
 rw[wX s.ne];exact s.ls
theorem nY {H:Hh} {m n:Nat} {p:Pen} {Ts:List Str} {z:Str} (s:St H m n p Ts) (t:Tx z) (hl:Ts.length<500):∃H':Hh,isL (.ref n) H=true/\bb (.ref n) [.str z] H=.ok .non H'/\St H' m n p (Ts++[z]):=by
 have e2:Ts.map D.str++[.str z]=(Ts++[z]).map D.str:=by rw[List.map_append];rfl
 refine⟨H.set n (.lst (Ts.map D.str++[.str z])),?_,?_,?_,?_,s.ne,?_,fun x hx=>?_⟩
 ·exact qo s.ls
 ·rw[oB s.ls,if_pos (by rw[List.length_map];omega)]
 ·rw[wX s.ne.symm];exact s.pn
 ·rw[hW s.ls,e2]
 ·rw[e2];exact rf s.wf (jT _)
 ·rcases List.mem_append.mp hx with hx | hx
  ·exact s.tx x hx
  ·rw[List.mem_singleton] at hx;subst hx;exact t
noncomputable def B0:MS:=(aF (uu 8 9 (aa (ah az (aa (ag 3) (aa (aq (aL au) (ah bC (aa (ag 5) ai)) (cC (.int 1))) ai))) (aa (aq k8 (ag 1) (ah az (aa (ag 3) (aa (ah bC (aa (ag 1) ai)) ai)))) ai))) (aF (dm (bo bb (ag 6) (aa (aq (aL au) (aq (aL au) (bV (ag 5) bX (cL (ag 8))) (ag 9)) (bV (ag 5) (cL (ag 8)) bX)) ai))) (aF (dm (bo bb (ag 6) (aa (aq (aL au) (aq (aL au) (bV (ag 5) bX (cL (ag 8))) (ag 9)) (bV (ag 5) (cL (aq (aL au) (ag 8) (cC (.int 1)))) bX)) ai))) (dm (bo bb (ag 6) (aa (aq (aL au) (bV (ag 5) bX (cL (ag 8))) (bV (ag 5) (cL (aq (aL au) (ag 8) (cC (.int 1)))) bX)) ai))))))
noncomputable def B1:MS:=(dC (aK asB (aq dNe (ah ek (aa (ah bw (aa (ag 10) ai)) ai)) (ah ek (aa (ah cO (aa (ag 10) ai)) ai)))) (bD (cC (.bl false))) b8)
noncomputable def B2:MS:=(dC (aK asB (aq dNe (ah bw (aa (ag 10) ai)) (ah eV (aa (cC (.str "text")) (aa (cC (.int 0)) ai))))) (bD (cC (.bl false))) b8)
noncomputable def B3:MS:=(aF (bB 3 (ah bA (aa (ag 2) ai))) (aF (bB 4 (ck au (gu eW (aa (aq (aL au) (cC (.int 1)) (ah az (aa (ag 3) (aa (cC (.int 4)) ai)))) ai)) [3] tt1 (ah bx (aa (ah bc (aa (ag 1) (aa (aq (aL au) (cC (.int 1)) (ah az (aa (ag 1) (aa (cC (.int 12)) ai)))) ai))) ai)))) (aF (bB 5 (aT bM (cC (.str "\n")) (aa (ag 4) ai))) (aF (bB 6 (ah (bg dO) (aa (ag 5) (aa (aq (aL au) (ag 5) (cC (.str "\n"))) (aa (aq (aL au) (cC (.str "\n")) (ag 5)) (aa (aq (aL au) (ag 5) (cC (.str " "))) (aa (aq (aL au) (cC (.str " ")) (ag 5)) (aa (cC (.str "")) (aa (cC (.str " ")) (aa (cC (.str "0")) (aa (cC (.str "1 0")) (aa (cC (.str "00")) (aa (cC (.str "0 01")) (aa (cC (.str "1")) (aa (cC (.str "0 0")) ai))))))))))))))) (aF (bB 6 (aq (aL dO) (ag 6) (ah (bg au) (aa (aT bM (cC (.str "\n")) (aa (aq (ff au) (ah (bg au) (aa (cC (.str "0")) ai)) (cC (.int 20))) ai)) (aa (aT bM (cC (.str "\n")) (aa (aq (ff au) (ah (bg au) (aa (cC (.str "0")) ai)) (cC (.int 21))) ai)) (aa (aT bM (cC (.str "\n")) (aa (aq (aL au) (aq (ff au) (ah (bg au) (aa (cC (.str "0")) ai)) (cC (.int 20))) (ah (bg au) (aa (cC (.str "1")) ai))) ai)) (aa (aq (aL au) (cC (.str "0 ")) (aq dX (cC (.str "1")) (cC (.int 20)))) ai))))))) (aF (bB 6 (aq (aL dO) (ag 6) (ah (bg au) (aa (aq (aL au) (cC (.str "0 ")) (aq dX (cC (.str "1")) (cC (.int 21)))) (aa (aq dX (cC (.str "1")) (cC (.int 21))) (aa (cC (.str "+0")) (aa (cC (.str "-0")) (aa (cC (.str "0.")) (aa (cC (.str "0,1")) (aa (cC (.str "1 0\n\n0")) (aa (cC (.str "1_0 0")) (aa (cC (.str "0\n1 0\n2 0")) ai)))))))))))) (aF (dm (bo bb (ag 6) (aa (aT bM (cC (.str " ")) (aa (ck au (gu eW (aa (cC (.int 21)) ai)) [] tt1 (ah gc (aa (ag 0) ai))) ai)) ai))) (aF (dN (gu eW (aa (cC (.int 6)) ai)) (gN 7) B0) (aF (dN (cB (ag 6)) (gN 10) B1) (dN (cB (ah eV (aa (cC .non) (aa (cC (.int 0)) (aa (cC (.bl true)) (aa (ah eV (aa (cC (.int 0)) ai)) (aa (ah (bg au) (aa (cC (.str "0")) ai)) (aa (cC .edic) (aa (ah (bg au) ai) (aa (ah eV (aa (cC (.str "0")) ai)) ai)))))))))) (gN 10) B2))))))))))
theorem vj:l6=fun ds h=>((cI 11 (aF (bB 1 (cC (.str "\n !\"#$&'()*+,-./0123456789:;<=>?@ABCDEFGHIJKLMNOPQRSTUVWXYZ[\\]^_`abcdefghijklmnopqrstuvwxyz{|}~"))) (aF (dN (cB (aq (aL au) (ah (bg au) (aa (ah bh (aa (ag 0) (aa (cC (.int 0)) ai))) ai)) (nS au (ag 0) (cL (cC (.int 1))) (cL (cC (.int 4)))))) (gN 2) B3) (bD (cC (.bl true)))))) ds h).bind (bZ h):=rfl
noncomputable def S1:MS:=(bB 3 (ah bA (aa (ag 2) ai)))
noncomputable def S2:MS:=(bB 4 (ck au (gu eW (aa (aq (aL au) (cC (.int 1)) (ah az (aa (ag 3) (aa (cC (.int 4)) ai)))) ai)) [3] tt1 (ah bx (aa (ah bc (aa (ag 1) (aa (aq (aL au) (cC (.int 1)) (ah az (aa (ag 1) (aa (cC (.int 12)) ai)))) ai))) ai))))
noncomputable def S3:MS:=(bB 5 (aT bM (cC (.str "\n")) (aa (ag 4) ai)))
noncomputable def S4:MS:=(bB 6 (ah (bg dO) (aa (ag 5) (aa (aq (aL au) (ag 5) (cC (.str "\n"))) (aa (aq (aL au) (cC (.str "\n")) (ag 5)) (aa (aq (aL au) (ag 5) (cC (.str " "))) (aa (aq (aL au) (cC (.str " ")) (ag 5)) (aa (cC (.str "")) (aa (cC (.str " ")) (aa (cC (.str "0")) (aa (cC (.str "1 0")) (aa (cC (.str "00")) (aa (cC (.str "0 01")) (aa (cC (.str "1")) (aa (cC (.str "0 0")) ai)))))))))))))))
noncomputable def S5:MS:=(bB 6 (aq (aL dO) (ag 6) (ah (bg au) (aa (aT bM (cC (.str "\n")) (aa (aq (ff au) (ah (bg au) (aa (cC (.str "0")) ai)) (cC (.int 20))) ai)) (aa (aT bM (cC (.str "\n")) (aa (aq (ff au) (ah (bg au) (aa (cC (.str "0")) ai)) (cC (.int 21))) ai)) (aa (aT bM (cC (.str "\n")) (aa (aq (aL au) (aq (ff au) (ah (bg au) (aa (cC (.str "0")) ai)) (cC (.int 20))) (ah (bg au) (aa (cC (.str "1")) ai))) ai)) (aa (aq (aL au) (cC (.str "0 ")) (aq dX (cC (.str "1")) (cC (.int 20)))) ai)))))))
noncomputable def S6:MS:=(bB 6 (aq (aL dO) (ag 6) (ah (bg au) (aa (aq (aL au) (cC (.str "0 ")) (aq dX (cC (.str "1")) (cC (.int 21)))) (aa (aq dX (cC (.str "1")) (cC (.int 21))) (aa (cC (.str "+0")) (aa (cC (.str "-0")) (aa (cC (.str "0.")) (aa (cC (.str "0,1")) (aa (cC (.str "1 0\n\n0")) (aa (cC (.str "1_0 0")) (aa (cC (.str "0\n1 0\n2 0")) ai))))))))))))
noncomputable def S7:MS:=(dm (bo bb (ag 6) (aa (aT bM (cC (.str " ")) (aa (ck au (gu eW (aa (cC (.int 21)) ai)) [] tt1 (ah gc (aa (ag 0) ai))) ai)) ai)))
noncomputable def S8:MS:=(dN (gu eW (aa (cC (.int 6)) ai)) (gN 7) B0)
noncomputable def S9:MS:=(dN (cB (ag 6)) (gN 10) B1)
noncomputable def S10:MS:=(dN (cB (ah eV (aa (cC .non) (aa (cC (.int 0)) (aa (cC (.bl true)) (aa (ah eV (aa (cC (.int 0)) ai)) (aa (ah (bg au) (aa (cC (.str "0")) ai)) (aa (cC .edic) (aa (ah (bg au) ai) (aa (ah eV (aa (cC (.str "0")) ai)) ai)))))))))) (gN 10) B2)
theorem Dm:B3=aF S1 (aF S2 (aF S3 (aF S4 (aF S5 (aF S6 (aF S7 (aF S8 (aF S9 (S10))))))))):=rfl
noncomputable def SG:Str:="\n !\"#$&'()*+,-./0123456789:;<=>?@ABCDEFGHIJKLMNOPQRSTUVWXYZ[\\]^_`abcdefghijklmnopqrstuvwxyz{|}~"
theorem oj:txB SG=true/\SG.length=95:=by decide +kernel
section
variable {d0 d1 d2 y3 y4 y5 y6 y7 y8 y9 y10:Option D} {h:Hh}
theorem DC {c:Int}:S1 [d0,d1,some (.int c),y3,y4,y5,y6,y7,y8,y9,y10] h=.ok (.nx [d0,d1,some (.int c),some (.ref h.length),y4,y5,y6,y7,y8,y9,y10]) (h++[.lst (bF (rq c))]):=by
 simp[S1]
theorem zC:∀{ys:List D},(∀y∈ys,∃xs,y=.str (cE xs)/\SmL xs)->∃Ls:List (List Int),ys=(Ls.map cE).map D.str/\∀xs∈Ls,SmL xs
 | [],_=>⟨[],rfl,fun _ h=>by cases h⟩
 | y::ys,k=>by
  obtain⟨xs,rfl,o⟩:=k y List.mem_cons_self
  obtain⟨Ls,rfl,a⟩:=zC fun z hz=>k z (List.mem_cons_of_mem _ hz)
  refine⟨xs::Ls,rfl,fun z hz=>?_⟩
  rcases List.mem_cons.mp hz with rfl | hz
  ·exact o
  ·exact a z hz
theorem CP {p:Pen} (w:Wf h):∃(Ls:List (List Int)) (p':Pen),wI Ls/\Ls.length<=4/\S2 [d0,d1,d2,some (.ref h.length),y4,y5,y6,y7,y8,y9,y10] (h++[.lst (bF p)])=.ok (.nx [d0,d1,d2,some (.ref h.length),some (.frl ((Ls.map cE).map D.str)),y5,y6,y7,y8,y9,y10]) (h++[.lst (bF p')]):=by
 obtain⟨a,e0,b0⟩:=u9 p 4 (by decide)
 have ea:(1:Int)+(a:Int)=((1+a:Nat):Int):=by omega
 obtain⟨ys,p',e,k,l⟩:=kB (te:=ah bx (aa (ah bc (aa (ag 1) (aa (aq (aL au) (cC (.int 1)) (ah az (aa (ag 1) (aa (cC (.int 12)) ai)))) ai))) ai)) (ee:=fun x=>[some x,some (.ref h.length)]) (fun p=>h++[.lst (bF p)]) (fun d=>∃xs,d=.str (cE xs)/\SmL xs) (fun x p=>by
  obtain⟨q,e1,b1⟩:=u9 p 12 (by decide)
  have eq:(1:Int)+(q:Int)=((1+q:Nat):Int):=by omega
  have xo:=wO (p:=cK p 12) (k:=1+q) w (by omega)
  have sm:=BE (uD (cK p 12) (1+q)) (by omega) (by omega)
  have xt:=AI (h:=h++[.lst (bF (js (cK p 12) (1+q)))]) sm
  refine⟨_,js (cK p 12) (1+q),?_,ij (cK p 12) (1+q),rfl,sm⟩
  have xt:bx [.tup ((ij (cK p 12) (1+q)).map D.int)] _=_:=xt
  have dn:(0:Int)<12/\(12:Int)<=10 ^ 20:=by decide +kernel
  simp only[vz,xi,qL,vn,Ca,e_C,zw,aZ,zf dn,e1,AN,eq,xo,xt]) (bL 0 (1+a)) (cK p 4)
 obtain⟨Ls,rfl,al⟩:=zC k
 rw[List.length_map,List.length_map,l0] at l
 refine⟨Ls,p',⟨fun z=>by rw[z] at l;simp at l;omega,by omega,al⟩,by omega,?_⟩
 have c3:1+a<=1000000:=by omega
 obtain⟨N,hN⟩:∃N:Nat,N=1+a:=⟨_,rfl⟩
 rw[<- hN] at e ea c3
 generalize (Ls.map cE).map D.str=ys at e ⊢
 simp[S2,e0,ea,e,c3]
theorem Df {Ls:List (List Int)} (s:wI Ls):S3 [d0,d1,d2,y3,some (.frl ((Ls.map cE).map D.str)),y5,y6,y7,y8,y9,y10] h=.ok (.nx [d0,d1,d2,y3,some (.frl ((Ls.map cE).map D.str)),some (.str (fY Ls)),y6,y7,y8,y9,y10]) h:=by
 have c4:wgt (Ls.map cE)<=1048576:=Nat.le_trans (B_ s) (by decide)
 have j:=vR (h:=h) uY.2 c4
 have j:bM (.str "\n") [.frl ((Ls.map cE).map D.str)] h=.ok (.str (fY Ls)) h:=j
 generalize (Ls.map cE).map D.str=ys at j ⊢
 simp[S3,j]
noncomputable def th4 (T:Str):List Str:=[T,T++"\n", "\n" ++ T,T++" ", " " ++ T,"", " ", "0", "1 0", "00", "0 01", "1", "0 0"]
theorem Bg {T:Str} (t:Ty T):∀z∈th4 T,Tx z:=by
 have a:Ty "\n" := sE (by decide +kernel) (by decide +kernel)
 have b:Ty " " := sE (by decide +kernel) (by decide +kernel)
 intro z hz
 simp only[th4,List.mem_cons,List.not_mem_nil,or_false] at hz
 rcases hz with rfl | rfl | rfl | rfl | rfl | rfl | rfl | rfl | rfl | rfl | rfl | rfl | rfl
 ·exact t.tx
 ·exact t.app a
 ·exact a.app t
 ·exact t.app b
 ·exact b.app t
 all_goals exact l5 (by decide +kernel)
theorem Dl {T:Str} (t:Ty T):S4 [d0,d1,d2,y3,y4,some (.str T),y6,y7,y8,y9,y10] h=.ok (.nx [d0,d1,d2,y3,y4,some (.str T),some (.ref h.length),y7,y8,y9,y10]) (h++[.lst ((th4 T).map D.str)]):=by
 have l:=t.len
 have n1:("\n" : Str).length=1:=by decide +kernel
 have n2:(" " : Str).length=1:=by decide +kernel
 have c1:T.length+("\n" : Str).length<=1000000:=by omega
 have c2:("\n" : Str).length+T.length<=1000000:=by omega
 have c3:T.length+(" " : Str).length<=1000000:=by omega
 have c4:(" " : Str).length+T.length<=1000000:=by omega
 simp[S4,c1,c2,c3,c4,th4]
theorem yU {a b:List D} {n:Nat} {H:Hh} (e:av H n=some a):aL dO (.ref n) (.frl b) H=if a.length+b.length<=1000000 then .ok (.ref H.length) (H++[.lst (a++b)]) else .bad:=by
 delta aL
 show(match gR (.ref n) H,gR (.frl b) H with | some a,some b=>if a.length+b.length<=1000000 then dO (a++b) H else .bad | _,_=>.bad)=_
 rw[show gR (.ref n) H=some a from e]
 rfl
theorem vE {H:Hh} {m n:Nat} {p:Pen} {Ts zs:List Str} (s:St H m n p Ts) (hl:Ts.length+zs.length<=500) (k:∀z∈zs,Tx z):∃H':Hh,aL dO (.ref n) (.frl (zs.map D.str)) H=.ok (.ref H.length) H'/\St H' m H.length p (Ts++zs):=by
 have e2:Ts.map D.str++zs.map D.str=(Ts++zs).map D.str:=by rw[List.map_append]
 refine⟨H++[.lst ((Ts++zs).map D.str)],?_,mU s.pn,cF,Nat.ne_of_lt (nD s.pn),s.wf.app (show gD _ (.lst ((Ts++zs).map D.str))=true from jT _),fun z hz=>?_⟩
 ·rw[yU s.ls,if_pos (by rw[List.length_map,List.length_map];omega),e2]
 ·rcases List.mem_append.mp hz with hz | hz
  ·exact s.tx z hz
  ·exact k z hz
noncomputable def E5:ME:=(ah (bg au) (aa (aT bM (cC (.str "\n")) (aa (aq (ff au) (ah (bg au) (aa (cC (.str "0")) ai)) (cC (.int 20))) ai)) (aa (aT bM (cC (.str "\n")) (aa (aq (ff au) (ah (bg au) (aa (cC (.str "0")) ai)) (cC (.int 21))) ai)) (aa (aT bM (cC (.str "\n")) (aa (aq (aL au) (aq (ff au) (ah (bg au) (aa (cC (.str "0")) ai)) (cC (.int 20))) (ah (bg au) (aa (cC (.str "1")) ai))) ai)) (aa (aq (aL au) (cC (.str "0 ")) (aq dX (cC (.str "1")) (cC (.int 20)))) ai)))))
noncomputable def E6:ME:=(ah (bg au) (aa (aq (aL au) (cC (.str "0 ")) (aq dX (cC (.str "1")) (cC (.int 21)))) (aa (aq dX (cC (.str "1")) (cC (.int 21))) (aa (cC (.str "+0")) (aa (cC (.str "-0")) (aa (cC (.str "0.")) (aa (cC (.str "0,1")) (aa (cC (.str "1 0\n\n0")) (aa (cC (.str "1_0 0")) (aa (cC (.str "0\n1 0\n2 0")) ai))))))))))
noncomputable def E7:ME:=(aT bM (cC (.str " ")) (aa (ck au (gu eW (aa (cC (.int 21)) ai)) [] tt1 (ah gc (aa (ag 0) ai))) ai))
noncomputable def th5:List Str:=[Txt.join "\n" (List.replicate 20 "0"),Txt.join "\n" (List.replicate 21 "0"),Txt.join "\n" (List.replicate 20 ("0" : Str)++[("1" : Str)]),"0 " ++ Txt.mul "1" 20]
noncomputable def th6:List Str:=["0 " ++ Txt.mul "1" 21,Txt.mul "1" 21,"+0", "-0", "0.", "0,1", "1 0\n\n0", "1_0 0", "0\n1 0\n2 0"]
noncomputable def th7:Str:=Txt.join " " ((List.range 21).map fun(i:Nat)=>nm i)
theorem Co (env:En) (H:Hh):E5 env H=.ok (.frl (th5.map D.str)) H:=by kernel_rfl
theorem CO (env:En) (H:Hh):E6 env H=.ok (.frl (th6.map D.str)) H:=by kernel_rfl
theorem B9 (env:En) (H:Hh):E7 env H=.ok (.str th7) H:=by kernel_rfl
theorem A_:∀z∈th5,Tx z:=fun z hz=>l5 (List.all_eq_true.mp (show th5.all txB=true by decide +kernel) z hz)
theorem As:∀z∈th6,Tx z:=fun z hz=>l5 (List.all_eq_true.mp (show th6.all txB=true by decide +kernel) z hz)
theorem A4:Tx th7:=l5 (by decide +kernel)
theorem CZ:S5=bB 6 (aq (aL dO) (ag 6) E5):=rfl
theorem Dw:S6=bB 6 (aq (aL dO) (ag 6) E6):=rfl
theorem B7:S7=dm (bo bb (ag 6) (aa E7 ai)):=rfl
end
theorem yg {σ:Type} {rd:Rdr} {tg:D->En->Hh->R En} {body:MS} (enc:Nat->D) (N:Nat) (E:σ->En) (G:σ->Hh) (I:Nat->σ->Prop) (hr:∀s i,i<N->rd (G s) i=some (some (enc i))) (hr2:∀s,rd (G s) N=some none)
  (st:∀i s,i<N->I i s->∃s',I (i+1) s'/\(tg (enc i) (E s) (G s)).bind body=.ok (.nx (E s')) (G s')) :
  ∀(k i:Nat) (s:σ),i+k=N->I i s->∃s',fk rd tg body k i (E s) (G s)=.ok (.nx (E s')) (G s')/\I N s':=by
 intro k
 induction k with
 | zero=>
  intro i s e hi
  have:i=N:=by omega
  subst this
  refine⟨s,?_,hi⟩
  unfold fk
  rw[hr2]
 | succ k ih=>
  intro i s e hi
  obtain⟨s1,a,b⟩:=st i s (by omega) hi
  obtain⟨s2,c,d⟩:=ih (i+1) s1 (by omega) a
  refine⟨s2,?_,d⟩
  unfold fk
  rw[hr s i (by omega)]
  show(tg (enc i) (E s) (G s)).bind (fun e1 h1=>(body e1 h1).bind _)=_
  rw[<- bp,b]
  exact c
section
variable {d0 d1 d2 y3 y4 y5 y6 y7 y8 y9 y10:Option D} {H:Hh} {m n:Nat} {p:Pen} {Ts:List Str}
theorem B6 (s:St H m n p Ts) (hl:Ts.length<=100):∃(H':Hh) (n':Nat),S5 [d0,d1,d2,y3,y4,y5,some (.ref n),y7,y8,y9,y10] H=.ok (.nx [d0,d1,d2,y3,y4,y5,some (.ref n'),y7,y8,y9,y10]) H'/\St H' m n' p (Ts++th5):=by
 obtain⟨H',e,s'⟩:=vE s (zs:=th5) (show Ts.length+4<=500 by omega) A_
 refine⟨H',H.length,?_,s'⟩
 rw[CZ]
 simp[Co]
 simp[e]
theorem DF (s:St H m n p Ts) (hl:Ts.length<=100):∃(H':Hh) (n':Nat),S6 [d0,d1,d2,y3,y4,y5,some (.ref n),y7,y8,y9,y10] H=.ok (.nx [d0,d1,d2,y3,y4,y5,some (.ref n'),y7,y8,y9,y10]) H'/\St H' m n' p (Ts++th6):=by
 obtain⟨H',e,s'⟩:=vE s (zs:=th6) (show Ts.length+9<=500 by omega) As
 refine⟨H',H.length,?_,s'⟩
 rw[Dw]
 simp[CO]
 simp[e]
theorem Cr (s:St H m n p Ts) (hl:Ts.length<=100):∃(H':Hh),S7 [d0,d1,d2,y3,y4,y5,some (.ref n),y7,y8,y9,y10] H=.ok (.nx [d0,d1,d2,y3,y4,y5,some (.ref n),y7,y8,y9,y10]) H'/\St H' m n p (Ts++[th7]):=by
 obtain⟨H',i,e,s'⟩:=nY s A4 (by omega)
 refine⟨H',?_,s'⟩
 rw[B7]
 simp[B9,i,e]
theorem CN {j:Nat} (hj:j<95) (H:Hh):∃z,k8 (.str SG) (.int j) H=.ok (.str z) H/\Ty z:=by
 have l:SG.cps.toList.length=95:=(fv SG).trans oj.2
 have hj':j<SG.cps.toList.length:=by omega
 have a:atI SG.cps.toList (j:Int)=some SG.cps.toList[j]:=by
  have e:ixN SG.cps.toList.length (j:Int)=some j:=by
   unfold ixN
   rw[if_pos (by omega),if_pos (by omega)];rfl
  unfold atI;rw[e,Option.bind_some,List.getElem?_eq_getElem hj']
 refine⟨⟨#[SG.cps.toList[j]]⟩,?_,fun c hc=>?_,by show 1<=250;decide⟩
 ·delta k8;dsimp only
  rw[if_pos (by rw[oj.2];decide),a]
 ·have:c=SG.cps.toList[j]:=by simpa [cl] using hc
  rw[this]
  exact(l5 oj.1).asc _ (List.getElem_mem hj')
theorem t8 {T:Str} {i:D} (t:Ty T) (s:St H m n p Ts) (hl:Ts.length<=400):∃(H':Hh) (p':Pen) (Ts':List Str) (z7 z8 z9:Option D),(gN 7 i [d0,some (.str SG),d2,some (.ref m),y4,some (.str T),some (.ref n),y7,y8,y9,y10] H).bind B0=.ok (.nx [d0,some (.str SG),d2,some (.ref m),y4,some (.str T),some (.ref n),z7,z8,z9,y10]) H'/\St H' m n p' Ts'/\Ts'.length=Ts.length+3:=by
 have lt:=t.len
 obtain⟨k,H1,p1,e1,b1,s1⟩:=sf (M:=(T.length:Int)+1) s (by omega) (by omega)
 obtain⟨j,H2,p2,e2,b2,s2⟩:=sf (M:=95) s1 (by decide) (by decide +kernel)
 obtain⟨sg,ix,ts⟩:=CN (show j<95 by omega) H2
 have lnT:bC [.str T] H=.ok (.int T.length) H:=if_pos (by omega)
 have lnS:bC [.str SG] H1=.ok (.int 95) H1:=by
  show(if SG.length<=1000000 then R.ok (D.int SG.length) H1 else R.bad)=_
  rw[oj.2];rfl
 have tA:=t.cut none (some (k:Int))
 have tB:=t.cut (some (k:Int)) none
 have tC:=t.cut (some ((k:Int)+1)) none
 generalize hA:Txt.slice T none (some (k:Int))=A at *
 generalize hB:Txt.slice T (some (k:Int)) none=B at *
 generalize hC:Txt.slice T (some ((k:Int)+1)) none=C at *
 have lA:=tA.len
 have lB:=tB.len
 have lC:=tC.len
 have ls:=ts.len
 obtain⟨H3,i3,a3,s3⟩:=nY s2 (CA tA ts tB) (by omega)
 obtain⟨H4,i4,a4,s4⟩:=nY s3 (CA tA ts tC) (by rw[List.length_append];simp;omega)
 obtain⟨H5,i5,a5,s5⟩:=nY s4 (tA.app tC) (by rw[List.length_append,List.length_append];simp;omega)
 have c0:T.length<=1000000:=by omega
 have c1:A.length+sg.length<=1000000:=by omega
 have c2:(A++sg).length+B.length<=1000000:=by rw[cY];omega
 have c3:(A++sg).length+C.length<=1000000:=by rw[cY];omega
 have c4:A.length+C.length<=1000000:=by omega
 refine⟨H5,p2,_,some i,some (.int k),some (.str sg),?_,s5,by simp⟩
 generalize SG=S at *
 simp[B0,lnT,e1,lnS,e2,ix,hA,hB,hC,c0,c1,c2,c3,c4,i3,a3,i4,a4,i5,a5]
theorem rS {T:Str} (t:Ty T):∀(ds:List D) (H:Hh) (p:Pen) (Ts:List Str) (y7 y8 y9:Option D),St H m n p Ts->Ts.length+3*ds.length<=400->∃(H':Hh) (p':Pen) (Ts':List Str) (z7 z8 z9:Option D),cS (gN 7) B0 ds [d0,some (.str SG),d2,some (.ref m),y4,some (.str T),some (.ref n),y7,y8,y9,y10] H=.ok (.nx [d0,some (.str SG),d2,some (.ref m),y4,some (.str T),some (.ref n),z7,z8,z9,y10]) H'/\St H' m n p' Ts'/\Ts'.length<=400
 | [],H,p,Ts,y7,y8,y9,s,hl=>⟨H,p,Ts,y7,y8,y9,rfl,s,by simp at hl;omega⟩
 | d::ds,H,p,Ts,y7,y8,y9,s,hl=>by
  rw[List.length_cons] at hl
  obtain⟨H1,p1,Ts1,z7,z8,z9,e1,s1,l1⟩:=t8 (d0:=d0) (d2:=d2) (y4:=y4) (y7:=y7) (y8:=y8) (y9:=y9) (y10:=y10) (i:=d) t s (by omega)
  obtain⟨H2,p2,Ts2,w7,w8,w9,e2,s2,l2⟩:=rS t ds H1 p1 Ts1 z7 z8 z9 s1 (by omega)
  refine⟨H2,p2,Ts2,w7,w8,w9,?_,s2,l2⟩
  rw[eD,<- bp,e1,aZ,lZ]
  exact e2
theorem BY {T:Str} (t:Ty T) (s:St H m n p Ts) (hl:Ts.length<=100):∃(H':Hh) (p':Pen) (Ts':List Str) (z7 z8 z9:Option D),S8 [d0,some (.str SG),d2,some (.ref m),y4,some (.str T),some (.ref n),y7,y8,y9,y10] H=.ok (.nx [d0,some (.str SG),d2,some (.ref m),y4,some (.str T),some (.ref n),z7,z8,z9,y10]) H'/\St H' m n p' Ts'/\Ts'.length<=400:=by
 obtain⟨H',p',Ts',z7,z8,z9,e,s',l⟩:=rS (d0:=d0) (d2:=d2) (y4:=y4) (y10:=y10) t (bL 0 6) H p Ts y7 y8 y9 s (by rw[l0];omega)
 refine⟨H',p',Ts',z7,z8,z9,?_,s',l⟩
 generalize SG=S at *
 simp[S8,e]
theorem Bz {z:Str} (H:Hh):∃r,ek [zi (res z)] H=.ok (.str r) H:=by
 have k:=wJ (rows z) 0 [] rfl (by decide) (fun _ h=>by cases h)
 unfold res
 cases e:j0 0 [] (rows z) with
 | inl Ls=>
  rw[e] at k
  exact⟨_,wa (h:=H) k.2 (by have:=k.1;omega)⟩
 | inr q=>
  rw[e] at k
  have rx:RX (.tup [.str "text", .int q]):=ES (show 2<=60 by decide) fun d hd=>by
   rcases List.mem_cons.mp hd with rfl | hd
   ·exact fun h=>⟨.str "text", by kernel_rfl,by decide +kernel⟩
   ·rw[List.mem_singleton] at hd;subst hd
    exact BI (sD k.1 (by have:=k.2;omega))
  obtain⟨r,er⟩:=rx H
  exact⟨r,pj er⟩
theorem t9 {z:Str} (t:Tx z) (w:Wf H):(gN 10 (.str z) [d0,d1,d2,y3,y4,y5,y6,y7,y8,y9,y10] H).bind B1=.ok (.nx [d0,d1,d2,y3,y4,y5,y6,y7,y8,y9,some (.str z)]) H:=by
 have a:=zX t w
 have b:=BU t w
 obtain⟨r,e⟩:=Bz (z:=z) H
 generalize zi (res z)=d at a b e
 simp[B1,a,b,e]
theorem CB (s:St H m n p Ts) (hl:Ts.length<=400):∃z10,S9 [d0,d1,d2,y3,y4,y5,some (.ref n),y7,y8,y9,y10] H=.ok (.nx [d0,d1,d2,y3,y4,y5,some (.ref n),y7,y8,y9,z10]) H:=by
 have ls:=s.ls
 obtain⟨z10,e,_⟩:=yg (σ:=Option D) (rd:=(Src.live n).rdr) (tg:=gN 10) (body:=B1) (fun i=>((Ts.map D.str)[i]?).getD .non) (Ts.map D.str).length (fun y=>[d0,d1,d2,y3,y4,y5,some (.ref n),y7,y8,y9,y]) (fun _=>H) (fun _ _=>True)
  (fun _ i hi=>by show(av H n).map (fun ds=>ds[i]?)=_;rw[ls,Option.map_some,List.getElem?_eq_getElem hi];rfl)
  (fun _=>by show(av H n).map (fun ds=>ds[(Ts.map D.str).length]?)=_;rw[ls,Option.map_some,List.getElem?_eq_none (Nat.le_refl _)])
  (fun i y hi _=>by
   have hi':i<Ts.length:=by rw[List.length_map] at hi;exact hi
   have ei:((Ts.map D.str)[i]?).getD .non=.str Ts[i]:=by rw[List.getElem?_map,List.getElem?_eq_getElem hi'];rfl
   rw[ei]
   exact⟨_,trivial,t9 (s.tx _ (List.getElem_mem hi')) s.wf⟩) (Ts.map D.str).length 0 y10 (by omega) trivial
 refine⟨z10,?_⟩
 have q:A3 (gN 10) B1 [d0,d1,d2,y3,y4,y5,some (.ref n),y7,y8,y9,y10] (.live n) H=.ok (.nx [d0,d1,d2,y3,y4,y5,some (.ref n),y7,y8,y9,z10]) H:=by
  show fk (Src.live n).rdr (gN 10) B1 ((av H n).getD []).length 0 _ H=_
  rw[ls];exact e
 have ql:=Dq ls
 simp[S9,ql,q]
theorem Al:dNe (.tup [.str "text", .int 0]) (.tup [.str "text", .int 0]) H=.ok (.bl false) H:=by kernel_rfl
theorem p7 (w:Wf H):∀(ds:List D) (y10:Option D),(∀d∈ds,fZ "str" d H=.ok (.bl false) H)->∃z10,cS (gN 10) B2 ds [d0,d1,d2,y3,y4,y5,y6,y7,y8,y9,y10] H=.ok (.nx [d0,d1,d2,y3,y4,y5,y6,y7,y8,y9,z10]) H
 | [],y10,_=>⟨y10,rfl⟩
 | d::ds,y10,k=>by
  have r:=yz (k d List.mem_cons_self) w
  have ne:=Al (H:=H)
  have t1:(gN 10 d [d0,d1,d2,y3,y4,y5,y6,y7,y8,y9,y10] H).bind B2=.ok (.nx [d0,d1,d2,y3,y4,y5,y6,y7,y8,y9,some d]) H:=by
   simp[B2,r,ne]
  obtain⟨z10,q⟩:=p7 w ds (some d) fun x hx=>k x (List.mem_cons_of_mem _ hx)
  refine⟨z10,?_⟩
  rw[eD,<- bp,t1,aZ,lZ]
  exact q
noncomputable def NT:List D:=[.non,.int 0,.bl true,.tup [.int 0],.frl [.str "0"],.edic,.frl [],.tup [.str "0"]]
theorem CI:∀d∈NT,fZ "str" d H=.ok (.bl false) H:=by
 intro d hd
 simp only[NT,List.mem_cons,List.not_mem_nil,or_false] at hd
 rcases hd with rfl | rfl | rfl | rfl | rfl | rfl | rfl | rfl<;>rfl
theorem Bh (w:Wf H):∃z10,S10 [d0,d1,d2,y3,y4,y5,y6,y7,y8,y9,y10] H=.ok (.nx [d0,d1,d2,y3,y4,y5,y6,y7,y8,y9,z10]) H:=by
 obtain⟨z10,q⟩:=p7 w (d0:=d0) (d1:=d1) (d2:=d2) (y3:=y3) (y4:=y4) (y5:=y5) (y6:=y6) (y7:=y7) (y8:=y8) (y9:=y9) NT y10 CI
 refine⟨z10,?_⟩
 unfold NT at q
 simp[S10,q]
end
theorem xD (ns:List Int) (c:Int) (y3 y4 y5 y6 y7 y8 y9 y10:Option D) (h:Hh) (w:Wf h):Ok (B3 [some (.scr (ns.map D.int)),some (.str SG),some (.int c),y3,y4,y5,y6,y7,y8,y9,y10] h) fun fl h2=>∃z3 z4 z5 z6 z7 z8 z9 z10,fl=.nx [some (.scr (ns.map D.int)),some (.str SG),some (.int c),z3,z4,z5,z6,z7,z8,z9,z10]/\Wf h2:=by
 rw[Dm]
 obtain⟨Ls,p2,sl,l4,e2⟩:=CP (d0:=some (.scr (ns.map D.int))) (d1:=some (.str SG)) (d2:=some (.int c)) (y4:=y4) (y5:=y5) (y6:=y6) (y7:=y7) (y8:=y8) (y9:=y9) (y10:=y10) (p:=rq c) w
 have ty:=zh sl l4
 have e3:=Df (d0:=some (.scr (ns.map D.int))) (d1:=some (.str SG)) (d2:=some (.int c)) (y3:=some (.ref h.length)) (y5:=y5) (y6:=y6) (y7:=y7) (y8:=y8) (y9:=y9) (y10:=y10) (h:=h++[.lst (bF p2)]) sl
 have e4:=Dl (d0:=some (.scr (ns.map D.int))) (d1:=some (.str SG)) (d2:=some (.int c)) (y3:=some (.ref h.length)) (y4:=some (.frl ((Ls.map cE).map D.str))) (y6:=y6) (y7:=y7) (y8:=y8) (y9:=y9) (y10:=y10) (h:=h++[.lst (bF p2)]) ty
 have st4:St ((h++[.lst (bF p2)])++[.lst ((th4 (fY Ls)).map D.str)]) h.length (h++[O.lst (bF p2)]).length p2 (th4 (fY Ls)):=⟨mU cF,cF,by rw[List.length_append];simp,(vd w p2).app (show gD _ (.lst ((th4 (fY Ls)).map D.str))=true from jT _),Bg ty⟩
 obtain⟨H5,n5,e5,st5⟩:=B6 (d0:=some (.scr (ns.map D.int))) (d1:=some (.str SG)) (d2:=some (.int c)) (y3:=some (.ref h.length)) (y4:=some (.frl ((Ls.map cE).map D.str))) (y5:=some (.str (fY Ls))) (y7:=y7) (y8:=y8) (y9:=y9) (y10:=y10) st4 (show 13<=100 by decide)
 obtain⟨H6,n6,e6,st6⟩:=DF (d0:=some (.scr (ns.map D.int))) (d1:=some (.str SG)) (d2:=some (.int c)) (y3:=some (.ref h.length)) (y4:=some (.frl ((Ls.map cE).map D.str))) (y5:=some (.str (fY Ls))) (y7:=y7) (y8:=y8) (y9:=y9) (y10:=y10) st5 (show 17<=100 by decide)
 obtain⟨H7,e7,st7⟩:=Cr (d0:=some (.scr (ns.map D.int))) (d1:=some (.str SG)) (d2:=some (.int c)) (y3:=some (.ref h.length)) (y4:=some (.frl ((Ls.map cE).map D.str))) (y5:=some (.str (fY Ls))) (y7:=y7) (y8:=y8) (y9:=y9) (y10:=y10) st6 (show 26<=100 by decide)
 obtain⟨H8,p8,Ts8,z7,z8,z9,e8,st8,l8⟩:=BY (d0:=some (.scr (ns.map D.int))) (d2:=some (.int c)) (y4:=some (.frl ((Ls.map cE).map D.str))) (y7:=y7) (y8:=y8) (y9:=y9) (y10:=y10) ty st7 (show 27<=100 by decide)
 obtain⟨z10,e9⟩:=CB (d0:=some (.scr (ns.map D.int))) (d1:=some (.str SG)) (d2:=some (.int c)) (y3:=some (.ref h.length)) (y4:=some (.frl ((Ls.map cE).map D.str))) (y5:=some (.str (fY Ls))) (y7:=z7) (y8:=z8) (y9:=z9) (y10:=y10) st8 l8
 obtain⟨w10,e10⟩:=Bh (d0:=some (.scr (ns.map D.int))) (d1:=some (.str SG)) (d2:=some (.int c)) (y3:=some (.ref h.length)) (y4:=some (.frl ((Ls.map cE).map D.str))) (y5:=some (.str (fY Ls))) (y6:=some (.ref n6)) (y7:=z7) (y8:=z8) (y9:=z9) (y10:=z10) st8.wf
 refine⟨.nx [some (.scr (ns.map D.int)),some (.str SG),some (.int c),some (.ref h.length),some (.frl ((Ls.map cE).map D.str)),some (.str (fY Ls)),some (.ref n6),z7,z8,z9,w10],H8,?_,_,_,_,_,_,_,_,_,rfl,st8.wf⟩
 simp only[zl,DC,aZ,Et,e2,e3,e4,e5,e6,e7,e8,e9,e10]
theorem AM (ns:List Int) (hl:ns.length<=63):∃h,l6 [.scr (ns.map D.int)] []=.ok (.bl true) h:=by
 have key:Ok (cS (gN 2) B3 (((ns.headD 0)::qb ns (some 1) (some 4)).map D.int) [some (.scr (ns.map D.int)),some (.str SG),none,none,none,none,none,none,none,none,none] []) fun fl h2=>(∃e,fl=.nx e)/\Wf h2:=by
  refine mV D.int (fun e h=>(∃y2 y3 y4 y5 y6 y7 y8 y9 y10,e=[some (.scr (ns.map D.int)),some (.str SG),y2,y3,y4,y5,y6,y7,y8,y9,y10])/\Wf h) _ _ _ ⟨⟨_,_,_,_,_,_,_,_,_,rfl⟩,Wf.nil⟩ (fun x e h _ ⟨⟨y2,y3,y4,y5,y6,y7,y8,y9,y10,e1⟩,w⟩=>?_) (fun e h ⟨_,w⟩=>⟨⟨_,rfl⟩,w⟩)
  subst e1
  simp only[A8,aZ,List.set]
  refine(xD ns x y3 y4 y5 y6 y7 y8 y9 y10 h w).mono fun fl h2 ⟨z3,z4,z5,z6,z7,z8,z9,z10,e2,w2⟩=>?_
  subst e2
  exact⟨⟨_,_,_,_,_,_,_,_,_,rfl⟩,w2⟩
 obtain⟨fl,h2,e,⟨e',rfl⟩,w⟩:=key
 have cl:=yQ ns (some 1) (some 4)
 have c1:1+(qb ns (some 1) (some 4)).length<=1000000:=by omega
 have ex:bZ [] (.bl true) h2=.ok (.bl true) []:=by
  have:=dy (h:=[]) (t:=h2) (d:=.bl true) Wf.nil rfl
  simpa using this
 refine⟨[],?_⟩
 have e2:cS (gN 2) B3 (D.int (ns.headD 0)::(qb ns (some 1) (some 4)).map D.int) [some (.scr (ns.map D.int)),some (.str SG),none,none,none,none,none,none,none,none,none] []=.ok (.nx e') h2:=e
 rw[vj]
 show((cI 11 (aF (bB 1 (cC (.str SG))) _) [.scr (ns.map D.int)] []).bind (bZ []))=_
 generalize SG=S at e2 ⊢
 simp[aW,tU,c1,e2,ex,-List.headD_eq_head?_getD]
end FC
open PySem PySem.W PyProof.Rows
local macro_rules | `(tactic| o_head $H)=>`(tactic| (refine holds_open (q:=FC.Q) (loose:=[]) (Xt:=(fun s=>xlAt FC.Q [] s&&recOk (RowW.records (OpenRow.toRowW (OpenLaw.row PySem.Challenge.rw_fallcounts_k92_texts_that_write_none))) s)) (XP:=XL FC.Q []) (Yf:=Hook.obs $H) (Ya:=Hook.val $H) (YP:=Hook.says $H) (N:=4726) (L2.FE.sZ (by decide) (by kernel_rfl) (fun _=>by kernel_rfl) FC.DE FC.C1 (fun w os=>by kernel_rfl)) (Hook.of $H) (Hook.keeps $H) (fun s e=>xl_of s (Bool.and_eq_true_iff.mp e).1) XL.keeps (by rfl) (by rfl) (by rfl) (fun s e=>recFacts_of (Bool.and_eq_true_iff.mp e).2) (by rfl) (by first | assumption | decide +kernel) (by decide +kernel) ⟨rfl,rfl,rfl,rfl,rfl,by decide +kernel⟩ ?hw ?hc))
set_option maxRecDepth 100000 in
set_option maxHeartbeats 0 in
theorem PySem.Challenge.cw_fallcounts_k92_texts_that_write_none_holds : PySem.Challenge.rw_fallcounts_k92_texts_that_write_none.Holds := by
 w_on;o_law;k_head;w_witness2
 k_fill
 refine FC.walk (l:=PySem.Challenge.rw_fallcounts_k92_texts_that_write_none) rfl rfl (fun w h Y=>by first | exact PySem.W.kIn_of Y | exact PySem.W.km_in_of Y) FC.AM ?F
 case F=>
  intro w mg fa h KX G hmg
  have T:FC.Text (L2.KOf KX):=by
   dsimp only[L2.KOf]
   refine' ⟨?dH,?d8,?fC,?fh,?fL,?eP,?dA,?dD,?d9,?gx,?fj,?eJ,?eg,?fA,?dZ,?gF,?uO,?cls,?ie,?eS,?qU,?fG,?vX,?eK,?xb,?q_,?wW,?mM,?qR,?wN,?uJ,?nF,?bY,?b9,?cZ⟩
   (case dH=>refine' L2.FE.b_ ?a ?l ?c ?k;(case a=>k_is);(case l=>k_is);(case c=>k_is);(case k=>k_is))
   (case d8=>refine' L2.FE.b_ ?a ?l ?c ?k;(case a=>k_is);(case l=>k_is);(case c=>k_is);(case k=>k_is))
   (case fC=>refine' L2.FE.b_ ?a ?l ?c ?k;(case a=>k_is);(case l=>k_is);(case c=>k_is);(case k=>k_is))
   (case fh=>refine' L2.FE.b_ ?a ?l ?c ?k;(case a=>k_is);(case l=>k_is);(case c=>k_is);(case k=>k_is))
   (case fL=>refine' L2.FE.b_ ?a ?l ?c ?k;(case a=>k_is);(case l=>k_is);(case c=>k_is);(case k=>k_is))
   (case eP=>refine' L2.FE.b_ ?a ?l ?c ?k;(case a=>k_is);(case l=>k_is);(case c=>k_is);(case k=>k_is))
   (case dA=>refine' L2.FE.b_ ?a ?l ?c ?k;(case a=>k_is);(case l=>k_is);(case c=>k_is);(case k=>k_is))
   (case dD=>refine' L2.FE.b_ ?a ?l ?c ?k;(case a=>k_is);(case l=>k_is);(case c=>k_is);(case k=>k_is))
   (case d9=>refine' L2.FE.b_ ?a ?l ?c ?k;(case a=>k_is);(case l=>k_is);(case c=>k_is);(case k=>k_is))
   (case gx=>refine' L2.FE.b_ ?a ?l ?c ?k;(case a=>k_is);(case l=>k_is);(case c=>k_is);(case k=>k_is))
   (case fj=>refine' L2.FE.b_ ?a ?l ?c ?k;(case a=>k_is);(case l=>k_is);(case c=>k_is);(case k=>k_is))
   (case eJ=>refine' L2.FE.b_ ?a ?l ?c ?k;(case a=>k_is);(case l=>k_is);(case c=>k_is);(case k=>k_is))
   (case eg=>refine' L2.FE.b_ ?a ?l ?c ?k;(case a=>k_is);(case l=>k_is);(case c=>k_is);(case k=>k_is))
   (case fA=>refine' L2.FE.b_ ?a ?l ?c ?k;(case a=>k_is);(case l=>k_is);(case c=>k_is);(case k=>k_is))
   (case dZ=>refine' L2.FE.b_ ?a ?l ?c ?k;(case a=>k_is);(case l=>k_is);(case c=>k_is);(case k=>k_is))
   (case gF=>refine' L2.FE.b_ ?a ?l ?c ?k;(case a=>k_is);(case l=>k_is);(case c=>k_is);(case k=>k_is))
   (case uO=>refine' L2.FE.b_ ?a ?l ?c ?k;(case a=>k_is);(case l=>k_is);(case c=>k_is);(case k=>k_is))
   (case cls=>refine' L2.Bx ?e0 ?e1 ?e2 ?e3 ?e4 ?e5 ?e6 ?e7 ?c;(case e0=>k_is);(case e1=>k_is);(case e2=>k_is);(case e3=>k_is);(case e4=>k_is);(case e5=>k_is);(case e6=>k_is);(case e7=>k_is);(case c=>kernel_rfl))
   (case ie=>refine' L2.yt ?a ?b ?l ?c ?k ?o FC.qJ FC.pY FC.qD FC.rp (by decide);(case a=>k_is);(case b=>k_is);(case l=>k_is);(case c=>k_is);(case k=>k_is);(case o=>kernel_rfl))
   (case eS=>k_is)
   (case qU=>k_is)
   (case fG=>k_is)
   (case vX=>k_is)
   (case eK=>k_is)
   (case xb=>k_is)
   (case q_=>k_is)
   (case wW=>k_is)
   (case mM=>k_is)
   (case qR=>k_is)
   (case wN=>k_is)
   (case uJ=>k_is)
   (case nF=>k_is)
   (case bY=>exact⟨_,rfl⟩)
   (case b9=>exact⟨_,rfl⟩)
   (case cZ=>exact⟨_,rfl⟩)
  exact FC.all_mk KX G hmg T
