import PyProof.Rows.All
import Wide.All
import OpenK.AllK
import Wide.FinOn
import Lean
import PyProof.EqAt
import PyProof.EqKinds
import PyProof.TupleCall
import PyProof.NeKinds
import KE.KSortTup
import PyProof.ZipIter
import PyProof.Rows.FactsT2
import PySem.Challenge.RW_downrings_k33_whole_soonest_are_least
set_option Elab.async false
set_option linter.all false
set_option maxRecDepth 100000
set_option maxHeartbeats 4000000
theorem gEG {α:Type _} {l:List α} {i:Nat} (h:i < l.length):l[i]?=some l[i]:=List.getElem?_eq_getElem h
theorem bAE (a b:Bool):((a && b)=true)=(a=true/\b=true):=Bool.and_eq_true a b
namespace L2
open PySem PySem.Spec PyProof.Rows
noncomputable abbrev Key:=Sum Int Str
noncomputable def Du:Key->Value->Bool
 | .inl k,v=>Value.isInt k v
 | .inr x,v=>Value.isStrOf x v
noncomputable def LU (w:World):Key->Int
 | .inl k=>hashInt k
 | .inr x=>hashStr w x
theorem ba:∀ {k:Key} {v:Value},Du k v=true->(∃ i t,k=Sum.inl i/\v=Value.int i t)\/(∃ x t,k=Sum.inr x/\v=Value.str x t)
 | .inl i,v,h=>by
  obtain ⟨t,e⟩:=Value.isInt_shape (k:=i) (v:=v) h
  exact .inl ⟨i,t,rfl,e⟩
 | .inr x,v,h=>by
  obtain ⟨t,e⟩:=Value.isStrOf_shape (x:=x) (v:=v) h
  exact .inr ⟨x,t,rfl,e⟩
theorem Ej (a b:Int):decide ((Sum.inl a:Key)=Sum.inl b)=(a == b):=by
 by_cases e:a=b
 ·subst e;simp
 ·have h:¬ (Sum.inl a:Key)=Sum.inl b:=fun q=>e (Sum.inl.inj q)
  rw [decide_eq_false h]
  exact (beq_eq_false_iff_ne.mpr e).symm
theorem Ek (a b:Str):decide ((Sum.inr a:Key)=Sum.inr b)=decide (a=b):=by
 by_cases e:a=b
 ·subst e;simp
 ·have h:¬ (Sum.inr a:Key)=Sum.inr b:=fun q=>e (Sum.inr.inj q)
  rw [decide_eq_false h,decide_eq_false e]
theorem El (a:Int) (b:Str):decide ((Sum.inl a:Key)=Sum.inr b)=false:=decide_eq_false (fun q=>nomatch q)
theorem Em (a:Str) (b:Int):decide ((Sum.inr a:Key)=Sum.inl b)=false:=decide_eq_false (fun q=>nomatch q)
noncomputable def nD (prog:Program) (w:World):PySem.KeyKind prog w Key where
 is:=Du
 hash:=LU w
 inj:=fun v a b ha hb=>by
  rcases ba ha with ⟨i,t,rfl,rfl⟩ | ⟨x,t,rfl,rfl⟩
  ·rcases ba hb with ⟨j,u,rfl,e⟩ | ⟨y,u,rfl,e⟩
   ·injection e with e1 _;rw [e1]
   ·exact nomatch e
  ·rcases ba hb with ⟨j,u,rfl,e⟩ | ⟨y,u,rfl,e⟩
   ·exact nomatch e
   ·injection e with e1 _;rw [e1]
 byValue:=fun k v h=>by
  rcases ba h with ⟨i,t,rfl,rfl⟩ | ⟨x,t,rfl,rfl⟩ <;> rfl
 pyHash:=fun hv h=>by
  rcases ba hv with ⟨i,t,rfl,rfl⟩ | ⟨x,t,rfl,rfl⟩
  ·exact wpAny_pyHash_int h
  ·exact wpAny_pyHash_str h
 eqBool:=fun hu hv h=>by
  rcases ba hu with ⟨i,t,rfl,rfl⟩ | ⟨x,t,rfl,rfl⟩
  ·rcases ba hv with ⟨j,u,rfl,rfl⟩ | ⟨y,u,rfl,rfl⟩
   ·rw [Ej] at h;exact wpAny_eqBool_int h
   ·rw [El] at h;exact SeqAt.EqAt.int_str i t y u _ _ _ _ h
  ·rcases ba hv with ⟨j,u,rfl,rfl⟩ | ⟨y,u,rfl,rfl⟩
   ·rw [Em] at h;exact SeqAt.EqAt.str_int x t j u _ _ _ _ h
   ·rw [Ek] at h;exact wpAny_eqBool_str h
 «strs»:=fun k x t v h=>by
  rcases ba h with ⟨i,u,rfl,e⟩ | ⟨y,u,rfl,e⟩
  ·exact nomatch e
  ·injection e with e1 _
   subst e1
   cases v <;> rfl
end L2
namespace L2
open PySem PySem.Spec PyProof.Rows
inductive V where
 | non | bl (b:Bool) | int (i:Int) | str (x:Str) | byt (b:Array UInt8) | flt (b:UInt64) | ref (a:Addr) | ty (n:String)
 deriving DecidableEq
noncomputable def aK:V->Value->Prop
 | .non,u=>u=Value.none
 | .bl b,u=>u=Value.bool b
 | .int i,u=>∃ t,u=Value.int i t
 | .str x,u=>∃ t,u=Value.str x t
 | .byt b,u=>∃ t,u=Value.bytes b t
 | .flt b,u=>∃ t,u=Value.float b t
 | .ref a,u=>u=Value.ref a
 | .ty n,u=>u=Value.type n
noncomputable abbrev aM:List V->List Value->Prop:=Paired aK
theorem aM.length {xs:List V} {us:List Value} (r:aM xs us):xs.length=us.length:=Paired.length r
theorem aM.get:∀ {xs:List V} {us:List Value} {i:Nat} {x:V},aM xs us->xs[i]?=some x->∃ u,us[i]?=some u/\aK x u
 | _,_,_,_,.nil,e=>by simp at e
 | _,_,0,_,.cons r _,e=>by simp at e;subst e;exact ⟨_,rfl,r⟩
 | _,_,i+1,x,.cons _ t,e=>by
  obtain ⟨u,h1,h2⟩:=aM.get (i:=i) (x:=x) t (by simpa using e)
  exact ⟨u,by simpa using h1,h2⟩
theorem aM.set {x:V} {u:Value} (r:aK x u):∀ {xs:List V} {us:List Value} (i:Nat),aM xs us->aM (xs.set i x) (us.set i u)
 | _,_,_,.nil=>.nil
 | _,_,0,.cons _ t=>.cons r t
 | _,_,i+1,.cons q t=>.cons q (aM.set r i t)
theorem aM.append:∀ {xs ys:List V} {us ws:List Value},aM xs us->aM ys ws->aM (xs++ys) (us++ws)
 | _,_,_,_,.nil,s=>s
 | _,_,_,_,.cons r t,s=>.cons r (aM.append t s)
theorem aM.take:∀ {xs:List V} {us:List Value} (n:Nat),aM xs us->aM (xs.take n) (us.take n)
 | _,_,0,_=>.nil
 | _,_,_+1,.nil=>.nil
 | _,_,n+1,.cons r t=>.cons r (aM.take n t)
theorem aM.drop:∀ {xs:List V} {us:List Value} (n:Nat),aM xs us->aM (xs.drop n) (us.drop n)
 | _,_,0,r=>r
 | _,_,_+1,.nil=>.nil
 | _,_,n+1,.cons _ t=>aM.drop n t
noncomputable def En:Option V->Option Value->Prop
 | some v,some u=>aK v u
 | none,none=>True
 | _,_=>False
noncomputable def KV {κ:Type}:List (κ × V)->List (κ × Value)->Prop:=Paired fun (p:κ × V) (q:κ × Value)=>p.1=q.1/\aK p.2 q.2
noncomputable def kV:Key->V
 | .inl i=>.int i
 | .inr x=>.str x
noncomputable def nF (h:Heap) (a:Addr) (items:Array Value):Prop:=∃ o,h.get? a=some o/\o.cls = .type "tuple"/\∃ n,o.data = .seq items n/\o.dict=none
theorem nF.isTup {h:Heap} {a:Addr} {items:Array Value} (x:nF h a items):IsTup h a items:=let ⟨o,e,c,n,d,_⟩:=x;⟨o,e,c,n,d⟩
theorem nF.lt {h:Heap} {a:Addr} {items:Array Value} (x:nF h a items):a < h.objs.size:=x.isTup.lt
theorem nF.new (h:Heap) (items:Array Value):nF (h.push { cls:=.type "tuple", data:=.seq items }) h.objs.size items:=⟨_,Heap.get?_push_size _ rfl,rfl,_,rfl,rfl⟩
inductive HO where
  | lst (xs:List V)
  | tup (xs:List V)
  | dK (kvs:List (Key × V)) | dT (kvs:List (List Key × V))
  | set (S:Int->Bool) (n:Nat)
  | ins (C dx:Addr) (fs:List (Str × V))
  | own (x:Addr)
  | xd (fs:List (Str × V))
  | met (f x:Addr)
  | rng (lo hi:Int)
  | frz (o:Obj) (u:HO)
  | tbl (ps:Array Value)
  | ext (φ:Heap->Prop)
noncomputable abbrev Hp:=Addr->Option HO
noncomputable def upd (H:Hp) (a:Addr) (o:HO):Hp:=fun b=>if b=a then some o else H b
theorem bf {H:Hp} {a:Addr} {o:HO}:upd H a o a=some o:=by unfold upd;rw [if_pos rfl]
theorem aC {H:Hp} {a b:Addr} {o:HO} (h:b ≠ a):upd H a o b=H b:=by unfold upd;rw [if_neg h]
theorem aP {H:Hp} {a b:Addr} {o:HO} (h:H a=some o) (h':H b=none):a ≠ b:=by
 intro e;subst e;rw [h] at h';cases h'
section
variable (P:Program) (w:World)
noncomputable def bL (H:Hp) (h:Heap) (a:Addr):HO->Prop
 | .lst xs=>xs.length<=sizeLine/\∃ (its:List Value) (n:Nat),aM xs its/\h.get? a=some { cls:=.type "list", data:=.seq its.toArray n }
 | .tup xs=>xs.length<=sizeLine/\∃ its:List Value,aM xs its/\nF h a its.toArray
 | .dK kvs=>kvs.length<=sizeLine/\(a == sysModules)=false/\∃ vs,KV kvs vs/\h.DictOf (nD P w) a vs
 | .dT kvs=>kvs.length<=sizeLine/\(a == sysModules)=false/\∃ xs:List (List Key × Addr × Value),
   Paired (fun (p:List Key × V) (q:List Key × Addr × Value)=>p.1=q.1/\H q.2.1=some (.tup (p.1.map kV))/\aK p.2 q.2.2) kvs xs ∧
   ∃ o es ep,h.get? a=some o/\o.ExactDict/\o.data = .dict es ep/\es.toList=xs.map (entryOfKey (tupleKind (nD P w)))/\(xs.map (·.1)).Nodup
 | .set S n=>h.SetOf (intKind P w) a S n
 | .ins C dx fs=>H dx=some (.own a)/\fs.length<=1000/\dx ≠ a/\h.get? a=some (PySem.W.instObj C dx) ∧
   ∃ mA,h.Ns1 dx mA/\(∀ f,En (fs.lookup f) (mA f))/\PySem.Within mA (fs.map (·.1))
 | .own _=>∃ o,h.get? a=some o
 | .xd fs=>∃ mA,h.Ns1 a mA/\∀ f,En (fs.lookup f) (mA f)
 | .rng lo hi=>∃ t u v,h.get? a=some { cls:=.type "range", data:=.fields #[.int lo t,.int hi u,.int 1 v] }
 | .frz o u=>h.get? a=some o/\bL H h a u
 | .tbl ps=>h.get? a=some { cls:=.none,data:=.fields ps }
 | .met f x=>h.get? a=some (PySem.W.methodObj (.ref f) (.ref x))
 | .ext φ=>φ h/\(∃ o,h.get? a=some o)/\∀ h1 h2:Heap,φ h1->(∀ o,h1.get? a=some o->h2.get? a=some o)->φ h2
noncomputable def HOk (H:Hp) (h:Heap):Prop:=∀ a o,H a=some o->bL P w H h a o
end
section
variable {P:Program} {w:World} {H H':Hp} {h h':Heap} {a:Addr} {o:HO}
theorem bL.lt (x:bL P w H h a o):a < h.objs.size:=by
 cases o with
 | lst xs=>obtain ⟨_,_,_,_,e⟩:=x;exact Heap.lt_size e
 | tup xs=>obtain ⟨_,_,_,p⟩:=x;exact p.lt
 | dK kvs=>obtain ⟨_,_,_,_,o,_,_,e,_⟩:=x;exact Heap.lt_size e
 | dT kvs=>obtain ⟨_,_,_,_,o,_,_,e,_⟩:=x;exact Heap.lt_size e
 | set S n=>obtain ⟨o,_,_,_,e,_⟩:=x;exact Heap.lt_size e
 | ins C dx fs=>obtain ⟨_,_,_,e,_⟩:=x;exact Heap.lt_size e
 | own y=>obtain ⟨_,e⟩:=x;exact Heap.lt_size e
 | xd fs=>obtain ⟨_,⟨_,_,_,e,_⟩,_⟩:=x;exact Heap.lt_size e
 | rng lo hi=>obtain ⟨_,_,_,e⟩:=x;exact Heap.lt_size e
 | frz ob u=>obtain ⟨e,_⟩:=x;exact Heap.lt_size e
 | tbl ps=>exact Heap.lt_size (show h.get? a=some _ from x)
 | met f y=>exact Heap.lt_size (show h.get? a=some _ from x)
 | ext φ=>obtain ⟨_,⟨_,e⟩,_⟩:=x;exact Heap.lt_size e
theorem Paired.mapP {α β:Type} {F G:α->β->Prop}:∀ {l₁:List α} {l₂:List β},Paired F l₁ l₂->(∀ a b,F a b->G a b)->Paired G l₁ l₂
 | _,_,.nil,_=>.nil
 | _,_,.cons r t,f=>.cons (f _ _ r) (Paired.mapP t f)
theorem bL.stay (x:bL P w H h a o) (k:∀ b u,(b=a\/H b=some (.own a))->h.get? b=some u->h'.get? b=some u)
  (ho:∀ b,H b=some (.own a)->H' b=some (.own a)) (ht:∀ b xs,H b=some (.tup xs)->H' b=some (.tup xs)):bL P w H' h' a o:=by
 induction o with
 | lst xs=>obtain ⟨z,its,n,r,e⟩:=x;exact ⟨z,its,n,r,k _ _ (.inl rfl) e⟩
 | tup xs=>obtain ⟨z,its,r,ob,e,c⟩:=x;exact ⟨z,its,r,ob,k _ _ (.inl rfl) e,c⟩
 | dK kvs=>obtain ⟨z,y,vs,r,ob,es,ep,e,c⟩:=x;exact ⟨z,y,vs,r,ob,es,ep,k _ _ (.inl rfl) e,c⟩
 | dT kvs=>
  obtain ⟨z,y,xs,r,ob,es,ep,e,c⟩:=x
  exact ⟨z,y,xs,Paired.mapP r fun p q z=>⟨z.1,ht _ _ z.2.1,z.2.2⟩,ob,es,ep,k _ _ (.inl rfl) e,c⟩
 | set S n=>obtain ⟨ob,es,ep,t,e,c⟩:=x;exact ⟨ob,es,ep,t,k _ _ (.inl rfl) e,c⟩
 | ins C dx fs=>
  obtain ⟨d,z,ne,e,mA,⟨od,es,ep,e2,c⟩,r⟩:=x
  exact ⟨ho _ d,z,ne,k _ _ (.inl rfl) e,mA,⟨od,es,ep,k _ _ (.inr d) e2,c⟩,r⟩
 | own y=>obtain ⟨ob,e⟩:=x;exact ⟨ob,k _ _ (.inl rfl) e⟩
 | xd fs=>obtain ⟨mA,⟨od,es,ep,e,c⟩,r⟩:=x;exact ⟨mA,⟨od,es,ep,k _ _ (.inl rfl) e,c⟩,r⟩
 | rng lo hi=>obtain ⟨t,u,v,e⟩:=x;exact ⟨t,u,v,k _ _ (.inl rfl) e⟩
 | frz ob u ih=>obtain ⟨e,q⟩:=x;exact ⟨k _ _ (.inl rfl) e,ih q⟩
 | tbl ps=>
  have e:h.get? a=some { cls:=.none,data:=.fields ps }:=x
  show h'.get? a=some { cls:=.none,data:=.fields ps }
  exact k a _ (.inl rfl) e
 | met f y=>
  have e:h.get? a=some (PySem.W.methodObj (.ref f) (.ref y)):=x
  show h'.get? a=some (PySem.W.methodObj (.ref f) (.ref y))
  exact k a _ (.inl rfl) e
 | ext φ=>obtain ⟨p,⟨o,e⟩,st⟩:=x;exact ⟨st _ _ p fun o q=>k _ _ (.inl rfl) q,⟨o,k _ _ (.inl rfl) e⟩,st⟩
theorem HOk.lt (x:HOk P w H h) (e:H a=some o):a < h.objs.size:=(x a o e).lt
theorem HOk.fresh (x:HOk P w H h) (e:h.objs.size<=a):H a=none:=by
 cases q:H a with
 | none=>rfl
 | some u=>exact absurd (Nat.lt_of_lt_of_le (x.lt q) e) (Nat.lt_irrefl _)
theorem HOk.kept (x:HOk P w H h) (k:∀ b u,h.get? b=some u->h'.get? b=some u):HOk P w H h':=fun a o e=>
 (x a o e).stay (fun b u _ q=>k b u q) (fun _ q=>q) fun _ _ q=>q
theorem HOk.laid (x:HOk P w H h) (k:∀ b u,h.get? b=some u->h'.get? b=some u) (hp:h.objs.size<=a) (new:bL P w (upd H a o) h' a o):HOk P w (upd H a o) h':=fun b u e=>by
 have hn:=x.fresh hp
 by_cases hb:b=a
 ·subst hb;rw [bf] at e;cases e;exact new
 ·rw [aC hb] at e
  exact (x b u e).stay (fun c v _ q=>k c v q) (fun c q=>by rw [aC (aP q hn)];exact q) fun c xs q=>by rw [aC (aP q hn)];exact q
end
noncomputable def Rd (H:Hp) (a:Addr) (u:HO):Prop:=H a=some u\/∃ o,H a=some (.frz o u)
theorem Rd.ok {P:Program} {w:World} {H:Hp} {h:Heap} {a:Addr} {u:HO} (r:Rd H a u) (x:HOk P w H h):bL P w H h a u:=by
 rcases r with r | ⟨o,r⟩
 ·exact x a u r
 ·obtain ⟨_,q⟩:=x a _ r
  exact q
noncomputable def Mut:Option HO->Prop
 | some (.lst _)=>True
 | some (.dK _)=>True
 | some (.dT _)=>True
 | some (.set _ _)=>True
 | some (.ins _ _ _)=>True
 | some (.ext _)=>True
 | _=>False
section
variable {P:Program} {w:World} {H:Hp} {h h':Heap} {x e:Addr} {o':HO}
theorem HOk.write (ok:HOk P w H h) (mu:Mut (H x)) (he:e=x\/H e=some (.own x)) (k:∀ b u,b ≠ e->h.get? b=some u->h'.get? b=some u) (heo:∃ u,h'.get? e=some u)
  (new:bL P w (upd H x o') h' x o'):HOk P w (upd H x o') h':=fun b u q=>by
 have nown:∀ c y,H c=some (.own y)->c ≠ x:=fun c y r z=>by subst z;rw [r] at mu;exact mu
 have ntup:∀ c xs,H c=some (.tup xs)->c ≠ x:=fun c xs r z=>by subst z;rw [r] at mu;exact mu
 by_cases hb:b=x
 ·subst hb;rw [bf] at q;cases q;exact new
 ·rw [aC hb] at q
  by_cases hbe:b=e
  ·have q':H b=some (.own x):=by
    rcases he with z | z
    ·exact absurd (hbe.trans z) hb
    ·rw [hbe];exact z
   rw [q] at q';cases q'
   obtain ⟨v,hv⟩:=heo
   exact ⟨v,by rw [hbe];exact hv⟩
  ·refine (ok b u q).stay (fun c v hc r=>k c v ?_ r) (fun c r=>by rw [aC (nown c b r)];exact r) fun c xs r=>by rw [aC (ntup c xs r)];exact r
   rcases hc with rfl | hc
   ·exact hbe
   ·rintro rfl
    rcases he with z | z
    ·exact nown c b hc z
    ·rw [hc] at z;cases z;exact hb rfl
end
structure Un (fs ex:List Addr) (H H':Hp) (h h':Heap):Prop where
 keep:∀ b o,h.get? b=some o->H b=none->b ∉ fs->b ∉ ex->h'.get? b=some o
 slot:∀ b o,h.get? b=some o->H b=none->b ∈ fs->b ∉ ex->∃ sl,h'.get? b=some { o with slots:=sl }
 free:∀ b o,h.get? b=some o->H b=none->b ∉ ex->H' b=none
 there:∀ b o,h.get? b=some o->b ∉ ex->∃ o',h'.get? b=some o'
 tups:∀ b xs,H b=some (.tup xs)->H' b=some (.tup xs)
 frzs:∀ b o u,H b=some (.frz o u)->H' b=some (.frz o u)
 tbls:∀ b ps,H b=some (.tbl ps)->∃ more,H' b=some (.tbl (ps++more))
section
variable {fs fs' ex ex':List Addr} {H H1 H2:Hp} {h h1 h2 h':Heap} {a x e:Addr} {o:HO}
theorem Un.any (u:Un fs ex H H1 h h1) {b:Addr} {ob:Obj} (q:h.get? b=some ob) (n:H b=none) (hx:b ∉ ex):∃ sl,h1.get? b=some { ob with slots:=sl }:=by
 by_cases hb:b ∈ fs
 ·exact u.slot b ob q n hb hx
 ·exact ⟨ob.slots,u.keep b ob q n hb hx⟩
theorem Un.kept (k:∀ b u,h.get? b=some u->h'.get? b=some u):Un fs ex H H h h':=
 ⟨fun b ob q _ _ _=>k b ob q,fun b ob q _ _ _=>⟨ob.slots,k b ob q⟩,fun _ _ _ n _=>n,fun b ob q _=>⟨ob,k b ob q⟩,fun _ _ q=>q,fun _ _ _ q=>q,fun _ ps q=>⟨#[],by rw [q];simp⟩⟩
theorem Un.refl:Un fs ex H H h h:=Un.kept fun _ _ q=>q
theorem Un.laid (k:∀ b u,h.get? b=some u->h'.get? b=some u) (hp:h.objs.size<=a) (hn:H a=none):Un fs ex H (upd H a o) h h' where
 keep:=fun b u q _ _ _=>k b u q
 slot:=fun b u q _ _ _=>⟨u.slots,k b u q⟩
 free:=fun b u q n _=>by rw [aC (Nat.ne_of_lt (Nat.lt_of_lt_of_le (Heap.lt_size q) hp))];exact n
 there:=fun b u q _=>⟨u,k b u q⟩
 tups:=fun b xs q=>by rw [aC (aP q hn)];exact q
 frzs:=fun b u xs q=>by rw [aC (aP q hn)];exact q
 tbls:=fun b ps q=>⟨#[],by rw [aC (aP q hn),q];simp⟩
theorem Un.write (mu:Mut (H x)) (he:e=x\/H e=some (.own x)) (k:∀ b u,b ≠ e->h.get? b=some u->h'.get? b=some u) (heo:∃ u,h'.get? e=some u):Un fs ex H (upd H x o) h h':=by
 have hx:∀ b,H b=none->b ≠ x:=fun b n z=>by subst z;rw [n] at mu;exact mu
 have hb:∀ b,H b=none->b ≠ e:=fun b n z=>by
  subst z
  rcases he with r | r
  ·exact hx b n r
  ·rw [n] at r;cases r
 have hm:∀ b u,H b=some u->¬ Mut (some u)->b ≠ x:=fun b u q nm z=>by subst z;rw [q] at mu;exact nm mu
 refine ⟨fun b u q n _ _=>k b u (hb b n) q,fun b u q n _ _=>⟨u.slots,k b u (hb b n) q⟩,fun b u q n _=>by rw [aC (hx b n)];exact n,fun b u q _=>?_,
  fun b xs q=>by rw [aC (hm b _ q fun z=>z)];exact q,fun b u xs q=>by rw [aC (hm b _ q fun z=>z)];exact q,fun b ps q=>⟨#[],by rw [aC (hm b _ q fun z=>z),q];simp⟩⟩
 by_cases hbe:b=e
 ·subst hbe;exact heo
 ·exact ⟨u,k b u hbe q⟩
end
noncomputable def trk (h:Heap) (H:Hp):List Addr:=(List.range h.objs.size).filter fun a=>(H a).isSome
noncomputable def nG (h:Heap) (H:Hp):Heap:=PySem.W.hideAll h (trk h H)
theorem uC (h:Heap) (H:Hp):(nG h H).objs.size=h.objs.size:=PySem.W.hideAll_size _ _
theorem wo {h:Heap} {H:Hp} {b:Addr} {o:Obj} (e:h.get? b=some o) (n:H b=none):(nG h H).get? b=some o:=
 PySem.W.hideAll_get _ e fun hm=>by
  have q:(H b).isSome=true:=(List.mem_filter.mp hm).2
  rw [n] at q;simp at q
theorem zY {h:Heap} {H:Hp} {b:Addr} {o:Obj} (e:(nG h H).get? b=some o):h.get? b=some o/\H b=none:=by
 have e':h.get? b=some o:=PySem.W.of_hideAll (trk h H) e
 refine ⟨e',?_⟩
 cases q:H b with
 | none=>rfl
 | some x=>
  have hm:b ∈ trk h H:=List.mem_filter.mpr ⟨List.mem_range.mpr (Heap.lt_size e'),by simp [q]⟩
  have z:(nG h H).get? b=none:=PySem.W.hideAll_none (trk h H) hm
  rw [z] at e;cases e
end L2
namespace L2
open PySem PySem.Spec PyProof.Rows
structure Mod (K:PySem.W.Frag) (mg:Str->Option Value) (base:Heap):Prop where
 kin:K.In base
 glob:base.Ns mainGlobals mg
 blt:∃ mb,base.Ns builtinsNs mb/\∀ x:Str,x ≠ "__name__"->mb x=bootBuiltins x
 nolimit:base.NoLimit
structure Cx where
 prog:Program
 w:World
 K:PySem.W.Frag
 mg:Str->Option Value
 base:Heap
 A:Around
 N:List Str
 s₀:Shared
 H₀:Hp
 env:Env
 outer:List Env
 stack:List Env
 ex:List Addr
 fn:Str->Bool
 calm:Bool
 pn:List (Addr × Obj)
 xe:Value->Shared->Prop
noncomputable def frs (l:List Env):List Addr:=l.filterMap (·.frame)
noncomputable abbrev Cx.fs (X:Cx):List Addr:=frs X.outer
noncomputable def Vis (sc:Scope) (x:Str):Prop:=sc.names.lookup x=some .local\/sc.names.lookup x=some .cell\/sc.names.lookup x=some .free
noncomputable def Loc (sc:Scope) (x:Str):Prop:=sc.names.lookup x=some .local\/sc.names.lookup x=some .cell
noncomputable def LV (env:Env) (h:Heap) (m:Str->Option Value) (x:Str) (u:Value):Prop:=
 (env.kindOf x=some .local/\m x=some u)\/((env.kindOf x=some .cell\/env.kindOf x=some .free)/\∃ c,env.cells.lookup x=some c/\h.IsCell c (some u))
structure Cx.Ok (X:Cx):Prop where
 mod:Mod X.K X.mg X.base
 kind:X.env.scope.kind = .function
 glob:X.env.globals=mainGlobals
 blt:X.env.builtins=builtinsNs
 above:X.s₀.heap.objs.size<=X.env.locals
 inj:∀ x y c,X.env.cells.lookup x=some c->X.env.cells.lookup y=some c->x=y
 has:∀ x,(X.env.kindOf x=some .cell\/X.env.kindOf x=some .free)->∃ c,X.env.cells.lookup x=some c
 cab:∀ x c,X.fn x=true->X.env.cells.lookup x=some c->X.s₀.heap.objs.size<=c
 hd:X.calm=true->X.A.handled=none
 frames:X.A.frames=some X.stack
 stk:X.stack=X.outer\/(X.stack=X.env::X.outer/\X.env.frame=some X.env.locals)
 exf:∀ b ∈ X.ex,b ≠ X.env.locals/\∀ x c,X.env.cells.lookup x=some c->c ≠ b
 bs:∀ b o,X.base.get? b=some o->X.s₀.heap.get? b=some o/\X.H₀ b=none
 bsz:X.base.objs.size<=X.s₀.heap.objs.size
 noex:∀ b o,X.base.get? b=some o->b ∉ X.ex
 exfs:∀ b ∈ X.ex,b ∉ X.fs
 funs:X.s₀.heap.FunFrames X.base X.outer
 frf:∀ b ∈ X.fs,X.H₀ b=none
structure Inv (X:Cx) (pins:List (Addr × Obj)) (σ:List (Option V)) (H:Hp) (s:Shared):Prop where
 ok:X.Ok
 os:s.os=X.s₀.os
 bare:AllBare s.gens
 base:Un X.fs X.ex X.H₀ H X.s₀.heap s.heap
 loc:∃ m,s.heap.Ns X.env.locals m/\∀ (i:Nat) (x:Str) (v:V),X.N[i]?=some x->σ[i]?=some (some v)->Vis X.env.scope x->∃ u,aK v u/\LV X.env s.heap m x u
 cell:∀ x c,X.env.cells.lookup x=some c->∃ v,s.heap.IsCell c v
 free:H X.env.locals=none
 freeC:∀ x c,X.env.cells.lookup x=some c->H c=none
 pin:∀ p ∈ X.pn++pins,s.heap.get? p.1=some p.2/\H p.1=none/\p.1 ≠ X.env.locals/\p.1 ∉ X.fs/\∀ v,p.2.data ≠ .cell v
 hok:HOk X.prog X.w H s.heap
 len:σ.length=X.N.length
section
variable {X:Cx} {pins:List (Addr × Obj)} {σ:List (Option V)} {H H':Hp} {s:Shared} {h':Heap}
theorem Cx.Ok.nofr (ok:X.Ok) {b:Addr} {o:Obj} (e:X.base.get? b=some o):b ∉ X.fs:=fun hb=>by
 have:=(ok.funs.mem hb).1
 rw [e] at this;cases this
theorem Inv.bs (I:Inv X pins σ H s):∀ b o,X.base.get? b=some o->s.heap.get? b=some o/\H b=none:=fun b o e=>
 ⟨I.base.keep b o (I.ok.bs b o e).1 (I.ok.bs b o e).2 (I.ok.nofr e) (I.ok.noex b o e),I.base.free b o (I.ok.bs b o e).1 (I.ok.bs b o e).2 (I.ok.noex b o e)⟩
theorem Inv.bk (I:Inv X pins σ H s):∀ b o,X.base.get? b=some o->s.heap.get? b=some o:=fun b o e=>(I.bs b o e).1
theorem Inv.mod (I:Inv X pins σ H s):Mod X.K X.mg X.base:=I.ok.mod
theorem Inv.kIn (I:Inv X pins σ H s):X.K.In s.heap:=I.ok.mod.kin.keeps I.bk
theorem Inv.lt (I:Inv X pins σ H s):X.env.locals < s.heap.objs.size:=let ⟨_,hn,_⟩:=I.loc;hn.lt
theorem Inv.sz (I:Inv X pins σ H s):X.s₀.heap.objs.size<=s.heap.objs.size:=Nat.le_trans I.ok.above (Nat.le_of_lt I.lt)
theorem Inv.nofs (I:Inv X pins σ H s) {a:Addr} (h:s.heap.objs.size<=a):a ∉ X.fs:=fun hb=>by
 obtain ⟨_,o,ho,_⟩:=I.ok.funs.mem hb
 exact absurd (Nat.lt_of_lt_of_le (Heap.lt_size ho) (Nat.le_trans I.sz h)) (Nat.lt_irrefl _)
theorem Inv.cne (I:Inv X pins σ H s):∀ x c,X.env.cells.lookup x=some c->c ≠ X.env.locals:=fun x c e z=>by
 obtain ⟨v,o,ho,hd⟩:=I.cell x c e
 obtain ⟨m,⟨o',es,ep,ho',hd',_⟩,_⟩:=I.loc
 rw [z,ho'] at ho;cases ho;rw [hd'] at hd;cases hd
theorem Inv.funs (I:Inv X pins σ H s):s.heap.FunFrames X.base X.outer:=by
 have all:∀ (l:List Env),(∀ b ∈ frs l,b ∈ X.fs)->X.s₀.heap.FunFrames X.base l->s.heap.FunFrames X.base l:=by
  intro l
  induction l with
  | nil=>intro _ _;trivial
  | cons env r ih=>
   intro hs hl
   obtain ⟨hk,⟨L,o,hf,hn,ho,hd⟩,hr⟩:=hl
   have hL:L ∈ X.fs:=hs L (by unfold frs;rw [List.filterMap_cons,hf];exact List.mem_cons_self)
   obtain ⟨sl,e⟩:=I.base.slot L o ho (I.ok.frf L hL) hL fun z=>I.ok.exfs L z hL
   exact ⟨hk,⟨L,_,hf,hn,e,hd⟩,ih (fun b hb=>hs b (by unfold frs;rw [List.filterMap_cons,hf];exact List.mem_cons_of_mem _ hb)) hr⟩
 exact all X.outer (fun _ hb=>hb) I.ok.funs
theorem Inv.stack (I:Inv X pins σ H s):s.heap.FunFrames X.base X.stack:=by
 rcases I.ok.stk with e | ⟨e,hf⟩
 ·rw [e];exact I.funs
 ·rw [e]
  obtain ⟨m,hn,_⟩:=I.loc
  refine .cons (by rw [I.ok.kind];decide) hf hn ?_ I.funs
  exact Heap.get?_none_of_le (Nat.le_trans I.ok.bsz I.ok.above)
theorem Inv.stkSub (I:Inv X pins σ H s):∀ b ∈ frs X.stack,b ∈ X.env.locals::X.fs:=fun b hb=>by
 rcases I.ok.stk with e | ⟨e,hf⟩
 ·rw [e] at hb;exact List.mem_cons_of_mem _ hb
 ·rw [e] at hb
  unfold frs at hb
  rw [List.filterMap_cons,hf] at hb
  exact hb
theorem Inv.stkFree (I:Inv X pins σ H s):∀ b ∈ frs X.stack,H b=none:=fun b hb=>by
 rcases List.mem_cons.mp (I.stkSub b hb) with e | hb
 ·rw [e];exact I.free
 ·obtain ⟨_,o,ho,_⟩:=I.ok.funs.mem hb
  exact I.base.free b o ho (I.ok.frf b hb) fun z=>I.ok.exfs b z hb
theorem Inv.step {g':Array GenState} {t':Nat} {d':Drawn} {ch:List Addr} (I:Inv X pins σ H s)
  (hch:∀ b ∈ ch,(b ∈ X.ex\/X.s₀.heap.objs.size<=b)/\b ≠ X.env.locals/\(∀ x c,X.env.cells.lookup x=some c->c ≠ b)/\∀ p ∈ X.pn++pins,p.1 ≠ b)
  (keep:∀ b o,b ≠ X.env.locals->b ∉ X.fs->b ∉ ch->s.heap.get? b=some o->H b=none->h'.get? b=some o)
  (slot:∀ b o,b ≠ X.env.locals->b ∈ X.fs->b ∉ ch->s.heap.get? b=some o->H b=none->∃ sl,h'.get? b=some { o with slots:=sl }) (free:∀ b o,b ∉ ch->s.heap.get? b=some o->H b=none->H' b=none)
  (there:∀ b o,b ∉ ch->s.heap.get? b=some o->∃ o',h'.get? b=some o')
  (tups:∀ b xs,H b=some (.tup xs)->H' b=some (.tup xs)) (frzs:∀ b o u,H b=some (.frz o u)->H' b=some (.frz o u)) (tbls:∀ b ps,H b=some (.tbl ps)->∃ more,H' b=some (.tbl (ps++more)))
  (ns:∀ m,s.heap.Ns X.env.locals m->h'.Ns X.env.locals m) (hok:HOk X.prog X.w H' h') (hg:AllBare g') :
  Inv X pins σ H' { s with heap:=h',gens:=g',drawn:=d',toks:=t' }:=by
 have neL:∀ b o,X.s₀.heap.get? b=some o->b ≠ X.env.locals:=fun b o e=>Nat.ne_of_lt (Nat.lt_of_lt_of_le (Heap.lt_size e) I.ok.above)
 have neC:∀ b o,X.s₀.heap.get? b=some o->b ∉ X.ex->b ∉ ch:=fun b o e hx hb=>by
  rcases (hch b hb).1 with z | z
  ·exact hx z
  ·exact absurd (Nat.lt_of_lt_of_le (Heap.lt_size e) z) (Nat.lt_irrefl _)
 have cellK:∀ x c,X.env.cells.lookup x=some c->∀ v,s.heap.IsCell c v->h'.IsCell c v:=fun x c e v ⟨o,ho,hd⟩=>by
  have nch:c ∉ ch:=fun z=>(hch c z).2.2.1 x c e rfl
  by_cases hc:c ∈ X.fs
  ·obtain ⟨sl,q⟩:=slot c o (I.cne x c e) hc nch ho (I.freeC x c e)
   exact ⟨_,q,hd⟩
  ·exact ⟨o,keep c o (I.cne x c e) hc nch ho (I.freeC x c e),hd⟩
 refine ⟨I.ok,I.os,hg,⟨fun b o e n hb hx=>?_,fun b o e n hb hx=>?_,fun b o e n hx=>?_,fun b o e hx=>?_,fun b xs e=>tups b xs (I.base.tups b xs e),fun b o xs e=>frzs b o xs (I.base.frzs b o xs e),fun b ps e=>?_⟩,?_,fun x c e=>?_,?_,fun x c e=>?_,fun p hp=>?_,hok,I.len⟩
 ·exact keep b o (neL b o e) hb (neC b o e hx) (I.base.keep b o e n hb hx) (I.base.free b o e n hx)
 ·obtain ⟨sl,e1⟩:=I.base.slot b o e n hb hx
  obtain ⟨sl',e2⟩:=slot b _ (neL b o e) hb (neC b o e hx) e1 (I.base.free b o e n hx)
  exact ⟨sl',e2⟩
 ·obtain ⟨o',e1⟩:=I.base.there b o e hx
  exact free b o' (neC b o e hx) e1 (I.base.free b o e n hx)
 ·obtain ⟨o',e1⟩:=I.base.there b o e hx
  exact there b o' (neC b o e hx) e1
 ·obtain ⟨m1,e1⟩:=I.base.tbls b ps e
  obtain ⟨m2,e2⟩:=tbls b _ e1
  exact ⟨m1++m2,by rw [e2,Array.append_assoc]⟩
 ·obtain ⟨m,hn,hl⟩:=I.loc
  refine ⟨m,ns m hn,fun i x v e1 e2 e3=>?_⟩
  obtain ⟨u,r,l⟩:=hl i x v e1 e2 e3
  refine ⟨u,r,?_⟩
  rcases l with l | ⟨k,c,e,z⟩
  ·exact .inl l
  ·exact .inr ⟨k,c,e,cellK x c e _ z⟩
 ·obtain ⟨v,z⟩:=I.cell x c e
  exact ⟨v,cellK x c e v z⟩
 ·obtain ⟨m,⟨o,_,_,ho,_⟩,_⟩:=I.loc
  exact free _ o (fun z=>(hch _ z).2.1 rfl) ho I.free
 ·obtain ⟨v,o,ho,hd⟩:=I.cell x c e
  exact free c o (fun z=>(hch c z).2.2.1 x c e rfl) ho (I.freeC x c e)
 ·obtain ⟨e,n,ne,nf,d⟩:=I.pin p hp
  have nch:p.1 ∉ ch:=fun z=>(hch p.1 z).2.2.2 p hp rfl
  exact ⟨keep p.1 p.2 ne nf nch e n,free p.1 p.2 nch e n,ne,nf,d⟩
theorem Inv.un {t':Nat} (I:Inv X pins σ H s) (u:Un X.fs [] H H' s.heap h') (hok:HOk X.prog X.w H' h'):Inv X pins σ H' { s with heap:=h',toks:=t' }:=by
 obtain ⟨m,⟨o,es,ep,ho,r⟩,_⟩:=id I.loc
 obtain ⟨sl,hL⟩:=u.any ho I.free (by simp)
 exact I.step (g':=s.gens) (d':=s.drawn) (ch:=[]) (fun _ z=>nomatch z) (fun b o _ hb _ e n=>u.keep b o e n hb (by simp)) (fun b o _ hb _ e n=>u.slot b o e n hb (by simp)) (fun b o _ e n=>u.free b o e n (by simp)) (fun b o _ e=>u.there b o e (by simp)) u.tups u.frzs u.tbls (fun m' hm=>by
  obtain ⟨o',es',ep',ho',r'⟩:=hm
  rw [ho] at ho';cases ho'
  exact ⟨_,es',ep',hL,r'⟩) hok I.bare
theorem Inv.call {g':Array GenState} {t':Nat} {d':Drawn} {ch:List Addr} (I:Inv X pins σ H s) (u:Un (frs X.stack) ch H H' s.heap h') (hok:HOk X.prog X.w H' h') (hg:AllBare g')
  (hch:∀ b ∈ ch,(b ∈ X.ex\/X.s₀.heap.objs.size<=b)/\b ≠ X.env.locals/\(∀ x c,X.env.cells.lookup x=some c->c ≠ b)/\∀ p ∈ X.pn++pins,p.1 ≠ b) :
  Inv X pins σ H' { s with heap:=h',gens:=g',drawn:=d',toks:=t' }:=by
 obtain ⟨m,⟨o,es,ep,ho,r⟩,_⟩:=id I.loc
 obtain ⟨sl,hL⟩:=u.any ho I.free fun z=>(hch _ z).2.1 rfl
 exact I.step (ch:=ch) hch (fun b o hL hb hc e n=>u.keep b o e n (fun z=>(List.mem_cons.mp (I.stkSub b z)).elim hL hb) hc) (fun b o _ _ hc e n=>u.any e n hc) (fun b o hc e n=>u.free b o e n hc) (fun b o hc e=>u.there b o e hc) u.tups u.frzs u.tbls (fun m' hm=>by
  obtain ⟨o',es',ep',ho',r'⟩:=hm
  rw [ho] at ho';cases ho'
  exact ⟨_,es',ep',hL,r'⟩) hok hg
theorem Inv.turned {t':Nat} {it:Addr} (I:Inv X pins σ H s) (k:∀ b o,b ≠ it->s.heap.get? b=some o->h'.get? b=some o) (hn:H it=none) (hL:it ≠ X.env.locals)
  (h1:it ∈ X.ex\/X.s₀.heap.objs.size<=it) (h2:∀ x c,X.env.cells.lookup x=some c->c ≠ it) (h3:∀ p ∈ X.pn++pins,p.1 ≠ it):Inv X pins σ H { s with heap:=h',toks:=t' }:=by
 have nit:∀ b u,H b=some u->b ≠ it:=fun b u e z=>by rw [z,hn] at e;cases e
 refine I.step (g':=s.gens) (d':=s.drawn) (ch:=[it]) (fun b hb=>?_) (fun b o _ _ hc e _=>k b o (fun z=>hc (by simp [z])) e) (fun b o _ _ hc e _=>⟨o.slots,k b o (fun z=>hc (by simp [z])) e⟩) (fun _ _ _ _ n=>n)
  (fun b o hc e=>⟨o,k b o (fun z=>hc (by simp [z])) e⟩) (fun _ _ e=>e) (fun _ _ _ e=>e) (fun b ps e=>⟨#[],by rw [e];simp⟩) (fun m hm=>?_) (fun b u e=>?_) I.bare
 ·have e:b=it:=by simpa using hb
  subst e
  exact ⟨h1,hL,h2,h3⟩
 ·obtain ⟨o,es,ep,ho,r⟩:=hm
  exact ⟨o,es,ep,k _ o (Ne.symm hL) ho,r⟩
 ·refine (I.hok b u e).stay (fun c v hc q=>k c v ?_ q) (fun _ q=>q) fun _ _ q=>q
  rcases hc with z | z
  ·rw [z];exact nit b u e
  ·exact nit c _ z
theorem Inv.tok (I:Inv X pins σ H s) (t:Nat):Inv X pins σ H { s with toks:=t }:=I.un (h':=s.heap) (t':=t) Un.refl I.hok
theorem Inv.kept {t':Nat} (I:Inv X pins σ H s) (k:∀ b u,s.heap.get? b=some u->h'.get? b=some u):Inv X pins σ H { s with heap:=h',toks:=t' }:=I.un (Un.kept k) (I.hok.kept k)
theorem Inv.laid {a:Addr} {o:HO} {t':Nat} (I:Inv X pins σ H s) (k:∀ b u,s.heap.get? b=some u->h'.get? b=some u) (hp:s.heap.objs.size<=a) (new:bL X.prog X.w (upd H a o) h' a o) :
  Inv X pins σ (upd H a o) { s with heap:=h',toks:=t' }:=I.un (Un.laid k hp (I.hok.fresh hp)) (I.hok.laid k hp new)
theorem Inv.write {x e:Addr} {o:HO} {t':Nat} (I:Inv X pins σ H s) (mu:Mut (H x)) (he:e=x\/H e=some (.own x)) (k:∀ b u,b ≠ e->s.heap.get? b=some u->h'.get? b=some u) (heo:∃ u,h'.get? e=some u)
  (new:bL X.prog X.w (upd H x o) h' x o):Inv X pins σ (upd H x o) { s with heap:=h',toks:=t' }:=I.un (Un.write mu he k heo) (I.hok.write mu he k heo new)
theorem Inv.pins_of {pins':List (Addr × Obj)} (I:Inv X pins σ H s) (h:∀ p ∈ pins',s.heap.get? p.1=some p.2/\H p.1=none/\p.1 ≠ X.env.locals/\p.1 ∉ X.fs/\∀ v,p.2.data ≠ .cell v):Inv X pins' σ H s:=
 ⟨I.ok,I.os,I.bare,I.base,I.loc,I.cell,I.free,I.freeC,fun p hp=>(List.mem_append.mp hp).elim (fun z=>I.pin p (List.mem_append_left _ z)) (h p),I.hok,I.len⟩
theorem pA {N:List Str} (hN:N.Nodup) {i j:Nat} {x:Str} (a:N[i]?=some x) (b:N[j]?=some x):i=j:=by
 obtain ⟨h1,e1⟩:=List.getElem?_eq_some_iff.mp a
 obtain ⟨h2,e2⟩:=List.getElem?_eq_some_iff.mp b
 exact (List.getElem_inj hN).mp (e1.trans e2.symm)
theorem mz {M:Model} {A:Around} {E:Value->Shared->Prop} {i:Nat} {x:Str} {v:V} {u:Value} {Q:Unit->Shared->Prop} (I:Inv X pins σ H s) (hN:X.N.Nodup) (hi:X.N[i]?=some x) (hx:Loc X.env.scope x) (r:aK v u)
  (h:∀ s',Inv X pins (σ.set i (some v)) H s'->(∃ a,Heap.SameBut a s.heap s'.heap/\(a=X.env.locals\/X.env.cells.lookup x=some a))->Q () s') (hf:X.fn x=true\/X.env.scope.names.lookup x=some .local:=by first | exact .inl rfl | exact .inr rfl | assumption):wpAny M A (storeName X.env x u) Q E s:=by
 obtain ⟨m,hn,hl⟩:=id I.loc
 have hcls:(X.env.scope.kind == .class || (X.env.scope.kind == .module && X.env.locals != X.env.globals))=false:=by rw [I.ok.kind];rfl
 have hiσ:i < σ.length:=by rw [I.len];exact (List.getElem?_eq_some_iff.mp hi).1
 have cne:=I.cne
 have tracked:∀ {a:Addr} {h':Heap},(∃ o,s.heap.get? a=some o/\H a=none)->Heap.SameBut a s.heap h'->HOk X.prog X.w H h':=fun {a h'} ha hs b ob e=>by
  obtain ⟨_,_,hfree⟩:=ha
  refine (I.hok b ob e).stay (fun c w' hc q=>(hs.2 c ?_).trans q) (fun _ q=>q) fun _ _ q=>q
  rintro rfl
  rcases hc with rfl | hc
  ·rw [hfree] at e;cases e
  ·rw [hfree] at hc;cases hc
 rcases hx with hk | hk
 ·refine wpAny_storeName_local hk hn (fun h' hn' hs=>?_) hcls
  obtain ⟨oL,_,_,hoL,_⟩:=id hn
  refine h _ ⟨I.ok,I.os,I.bare,⟨fun b o e n hb hx=>?_,fun b o e n hb hx=>?_,I.base.free,fun b o e hx=>?_,I.base.tups,I.base.frzs,I.base.tbls⟩,⟨_,hn',fun j y v' e1 e2 e3=>?_⟩,fun y c e=>?_,I.free,I.freeC,fun p hp=>?_,tracked ⟨oL,hoL,I.free⟩ hs,by simpa using I.len⟩ ⟨_,hs,.inl rfl⟩
  ·exact (hs.2 b (Nat.ne_of_lt (Nat.lt_of_lt_of_le (Heap.lt_size e) I.ok.above))).trans (I.base.keep b o e n hb hx)
  ·obtain ⟨sl,e1⟩:=I.base.slot b o e n hb hx
   exact ⟨sl,(hs.2 b (Nat.ne_of_lt (Nat.lt_of_lt_of_le (Heap.lt_size e) I.ok.above))).trans e1⟩
  ·obtain ⟨o',e1⟩:=I.base.there b o e hx
   exact ⟨o',(hs.2 b (Nat.ne_of_lt (Nat.lt_of_lt_of_le (Heap.lt_size e) I.ok.above))).trans e1⟩
  ·by_cases hj:j=i
   ·subst hj
    rw [hi] at e1;cases e1
    rw [List.getElem?_set_self hiσ] at e2
    cases e2
    exact ⟨u,r,.inl ⟨hk,by simp⟩⟩
   ·rw [List.getElem?_set_ne (Ne.symm hj)] at e2
    obtain ⟨u',r',q⟩:=hl j y v' e1 e2 e3
    refine ⟨u',r',?_⟩
    rcases q with ⟨k,e⟩ | ⟨k,c,e,z⟩
    ·refine .inl ⟨k,?_⟩
     have:y ≠ x:=fun e=>hj (pA hN e1 (e ▸ hi))
     simp [this,e]
    ·exact .inr ⟨k,c,e,z.sameBut hs (cne y c e)⟩
  ·obtain ⟨w',z⟩:=I.cell y c e
   exact ⟨w',z.sameBut hs (cne y c e)⟩
  ·obtain ⟨e,n,ne,nf,d⟩:=I.pin p hp
   exact ⟨(hs.2 p.1 ne).trans e,n,ne,nf,d⟩
 ·have hfn:X.fn x=true:=by
   rcases hf with z | z
   ·exact z
   ·rw [z] at hk;cases hk
  obtain ⟨c,hc⟩:=I.ok.has x (.inl hk)
  obtain ⟨w',z⟩:=I.cell x c hc
  refine wpAny_storeName_cell I.ok.kind hk hc z (fun h' hc' hs=>?_)
  obtain ⟨oc,hoc,hocd⟩:=id z
  refine h { s with heap:=h' } ⟨I.ok,I.os,I.bare,⟨fun b o e n hb hx=>?_,fun b o e n hb hx=>?_,I.base.free,fun b o e hx=>?_,I.base.tups,I.base.frzs,I.base.tbls⟩,⟨m,hn.sameBut hs (Ne.symm (cne x c hc)),fun j y v' e1 e2 e3=>?_⟩,fun y c' e=>?_,I.free,I.freeC,fun p hp=>?_,tracked ⟨oc,hoc,I.freeC x c hc⟩ hs,by simpa using I.len⟩ ⟨c,hs,.inr hc⟩
  ·exact (hs.2 b (Nat.ne_of_lt (Nat.lt_of_lt_of_le (Heap.lt_size e) (I.ok.cab x c hfn hc)))).trans (I.base.keep b o e n hb hx)
  ·obtain ⟨sl,e1⟩:=I.base.slot b o e n hb hx
   exact ⟨sl,(hs.2 b (Nat.ne_of_lt (Nat.lt_of_lt_of_le (Heap.lt_size e) (I.ok.cab x c hfn hc)))).trans e1⟩
  ·obtain ⟨o',e1⟩:=I.base.there b o e hx
   exact ⟨o',(hs.2 b (Nat.ne_of_lt (Nat.lt_of_lt_of_le (Heap.lt_size e) (I.ok.cab x c hfn hc)))).trans e1⟩
  ·by_cases hj:j=i
   ·subst hj
    rw [hi] at e1;cases e1
    rw [List.getElem?_set_self hiσ] at e2
    cases e2
    exact ⟨u,r,.inr ⟨.inl hk,c,hc,hc'⟩⟩
   ·rw [List.getElem?_set_ne (Ne.symm hj)] at e2
    obtain ⟨u',r',q⟩:=hl j y v' e1 e2 e3
    refine ⟨u',r',?_⟩
    rcases q with q | ⟨k,c',e,z'⟩
    ·exact .inl q
    ·refine .inr ⟨k,c',e,z'.sameBut hs ?_⟩
     rintro rfl
     exact hj (pA hN e1 (I.ok.inj _ _ _ e hc ▸ hi))
  ·by_cases hcc:c'=c
   ·subst hcc;exact ⟨_,hc'⟩
   ·obtain ⟨w2,z2⟩:=I.cell y c' e
    exact ⟨w2,z2.sameBut hs hcc⟩
  ·obtain ⟨e,n,ne,nf,d⟩:=I.pin p hp
   refine ⟨(hs.2 p.1 ?_).trans e,n,ne,nf,d⟩
   intro q
   rw [q,hoc] at e
   have q':oc=p.2:=Option.some.inj e
   exact d w' (by rw [<-q'];exact hocd)
theorem cG {M:Model} {A:Around} {E:Value->Shared->Prop} {i:Nat} {x:Str} {v:V} {u:Value} {Q:Unit->Shared->Prop} (I:Inv X pins σ H s) (hN:X.N.Nodup) (hi:X.N[i]?=some x) (hx:Loc X.env.scope x) (r:aK v u)
  (h:∀ s',Inv X pins (σ.set i (some v)) H s'->Q () s') (hf:X.fn x=true\/X.env.scope.names.lookup x=some .local:=by first | exact .inl rfl | exact .inr rfl | assumption):wpAny M A (storeName X.env x u) Q E s:=
 mz I hN hi hx r (fun s' I' _=>h s' I') hf
theorem Inv.call' {s':Shared} {ch:List Addr} (I:Inv X pins σ H s) (ho:s'.os=s.os) (u:Un (frs X.stack) ch H H' s.heap s'.heap) (hok:HOk X.prog X.w H' s'.heap) (hg:AllBare s'.gens)
  (hch:∀ b ∈ ch,(b ∈ X.ex\/X.s₀.heap.objs.size<=b)/\b ≠ X.env.locals/\(∀ x c,X.env.cells.lookup x=some c->c ≠ b)/\∀ p ∈ X.pn++pins,p.1 ≠ b):Inv X pins σ H' s':=by
 obtain ⟨h',g',d',t',o'⟩:=s'
 have e:o'=s.os:=ho
 subst e
 exact I.call (g':=g') (t':=t') (d':=d') u hok hg hch
end
noncomputable abbrev XK:=Value->Option Addr->Hp->Prop
noncomputable abbrev St:=List (Option V)
noncomputable abbrev VK:=V->Hp->Prop
noncomputable abbrev TE:=St->Hp->VK->Prop
noncomputable abbrev TT:=St->Hp->(Bool->Hp->Prop)->Prop
noncomputable abbrev TA:=St->Hp->(List V->Hp->Prop)->Prop
structure Ends where
 nx:St->Hp->Prop
 rt:VK
 bk:St->Hp->Prop:=fun _ _=>False
 ct:St->Hp->Prop:=fun _ _=>False
noncomputable abbrev TS:=Ends->St->Hp->Prop
noncomputable def EP (X:Cx) (pins:List (Addr × Obj)) (σ:St) (Q:VK) (u:Value) (s':Shared):Prop:=∃ v H',Inv X pins σ H' s'/\aK v u/\Q v H'
noncomputable def TP (X:Cx) (pins:List (Addr × Obj)) (σ:St) (Q:Bool->Hp->Prop) (b:Bool) (s':Shared):Prop:=∃ H',Inv X pins σ H' s'/\Q b H'
noncomputable def AP (X:Cx) (pins:List (Addr × Obj)) (σ:St) (Q:List V->Hp->Prop) (us:List Value) (s':Shared):Prop:=∃ vs H',Inv X pins σ H' s'/\aM vs us/\Q vs H'
noncomputable def SP (X:Cx) (pins:List (Addr × Obj)) (D:Ends) (f:Flow) (s':Shared):Prop:=
 match f with
 | .next=>∃ σ' H',Inv X pins σ' H' s'/\D.nx σ' H'
 | .brk=>∃ σ' H',Inv X pins σ' H' s'/\D.bk σ' H'
 | .cont=>∃ σ' H',Inv X pins σ' H' s'/\D.ct σ' H'
 | .ret u=>∃ v σ' H',Inv X pins σ' H' s'/\aK v u/\D.rt v H'
noncomputable def PE (X:Cx) (e:Expr) (t:TE):Prop:=
 ∀ (pins:List (Addr × Obj)) (s:Shared) (σ:St) (H:Hp) (Q:VK),Inv X pins σ H s->t σ H Q->wpAny (model X.prog X.w) X.A (eval e X.env) (EP X pins σ Q) X.xe s
noncomputable def PT (X:Cx) (e:Expr) (t:TT):Prop:=
 ∀ (pins:List (Addr × Obj)) (s:Shared) (σ:St) (H:Hp) (Q:Bool->Hp->Prop),Inv X pins σ H s->t σ H Q->wpAny (model X.prog X.w) X.A (isTrue e X.env (eval e X.env)) (TP X pins σ Q) X.xe s
noncomputable def PW (X:Cx) (e:Expr) (t:TT):Prop:=
 ∀ (whole:Sem Value) (pins:List (Addr × Obj)) (s:Shared) (σ:St) (H:Hp) (Q:Bool->Hp->Prop),Inv X pins σ H s->t σ H Q->wpAny (model X.prog X.w) X.A (isTrue e X.env whole) (TP X pins σ Q) X.xe s
theorem PW.pt {X:Cx} {e:Expr} {t:TT} (h:PW X e t):PT X e t:=h _
noncomputable def PA (X:Cx) (es:List Expr) (t:TA):Prop:=
 ∀ (pos:Pos) (pins:List (Addr × Obj)) (s:Shared) (σ:St) (H:Hp) (Q:List V->Hp->Prop),Inv X pins σ H s->t σ H Q->wpAny (model X.prog X.w) X.A (spliced (backTo pos (starEach es X.env))) (AP X pins σ Q) X.xe s
noncomputable def PS (X:Cx) (st:Stmt) (t:TS):Prop:=
 ∀ (pins:List (Addr × Obj)) (s:Shared) (σ:St) (H:Hp) (D:Ends),Inv X pins σ H s->t D σ H->wpAny (model X.prog X.w) X.A (exec st X.env) (SP X pins D) X.xe s
noncomputable def PSs (X:Cx) (st:List Stmt) (t:TS):Prop:=
 ∀ (pins:List (Addr × Obj)) (s:Shared) (σ:St) (H:Hp) (D:Ends),Inv X pins σ H s->t D σ H->wpAny (model X.prog X.w) X.A (execs st X.env) (SP X pins D) X.xe s
theorem thn {α:Type} {t:Sem α} {Q Q':α->Shared->Prop} {M:Model} {A:Around} {E:Value->Shared->Prop} {s:Shared} (h:wpAny M A t Q E s) (hQ:∀ a s,Q a s->Q' a s):wpAny M A t Q' E s:=wpAny_mono h hQ fun _ _ x=>x
end L2
namespace L2
open PySem PySem.Spec PyProof.Rows
section
variable {X:Cx}
theorem bin {a b:Expr} {ta tb:TE} (ha:PE X a ta) (hb:PE X b tb) {pins:List (Addr × Obj)} {s:Shared} {σ:St} {H:Hp} {R:V->V->Hp->Prop} (I:Inv X pins σ H s) (h:ta σ H fun x H1=>tb σ H1 fun y H2=>R x y H2)
  {α:Type} {Q:α->Shared->Prop} {f:Value->Value->Sem α}
  (hf:∀ v u s2 x y H2,Inv X pins σ H2 s2->aK x v->aK y u->R x y H2->wpAny (model X.prog X.w) X.A (f v u) Q X.xe s2) :
  wpAny (model X.prog X.w) X.A (eval a X.env) (fun v s₁=>wpAny (model X.prog X.w) X.A (eval b X.env) (fun u s₂=>wpAny (model X.prog X.w) X.A (f v u) Q X.xe s₂) X.xe s₁) X.xe s:=by
 refine thn (ha pins s σ H _ I h) fun v s1 ⟨x,H1,I1,r1,q1⟩=>?_
 refine thn (hb pins s1 σ H1 _ I1 q1) fun u s2 ⟨y,H2,I2,r2,q2⟩=>?_
 exact hf v u s2 x y H2 I2 r1 r2 q2
noncomputable def I0 (i:Nat):TE:=fun σ H Q=>∃ v,σ[i]?=some (some v)/\Q v H
noncomputable def tC (v:V):TE:=fun _ H Q=>Q v H
theorem Eo {i:Nat} {x:Str} {pos:Pos} (hN:X.N[i]?=some x) (hv:Vis X.env.scope x) (hd:(x == ("__debug__" : Str))=false:=by decide) (hcd:(x == ("__classdict__" : Str))=false:=by decide):PE X (.Name x pos) (I0 i):=by
 intro pins s σ H Q I h
 obtain ⟨v,e,h⟩:=h
 obtain ⟨m,hn,hl⟩:=I.loc
 obtain ⟨u,r,l⟩:=hl i x v hN e hv
 have fin:EP X pins σ Q u s:=⟨v,H,I,r,h⟩
 rcases l with ⟨hk,hm⟩ | ⟨hk,c,hc,hcell⟩
 ·exact wpAny_Name (wpAny_loadName_local I.ok.kind hk hn hm fin) hd
 ·rcases hk with hk | hk
  ·exact wpAny_Name (wpAny_loadName_cell I.ok.kind hk hc hcell fin) hd
  ·exact wpAny_Name (wpAny_loadName_free I.ok.kind hk hc hcell fin hcd) hd
theorem wp {i j pos}:PE X (.Constant (.int i) j pos) (tC (.int i)):=fun _ _ _ H _ I h=>wpAny_Constant_int ⟨.int i,H,I.tok _,⟨_,rfl⟩,h⟩
theorem I8 {b j pos}:PE X (.Constant (.bool b) j pos) (tC (.bl b)):=fun _ _ _ H _ I h=>Constant_bool ⟨.bl b,H,I,rfl,h⟩
theorem Ep {j pos}:PE X (.Constant .none j pos) (tC .non):=fun _ _ _ H _ I h=>Constant_none ⟨.non,H,I,rfl,h⟩
theorem Er {x j pos}:PE X (.Constant (.str x) j pos) (tC (.str x)):=fun _ _ _ H _ I h=>Calls.Constant_str ⟨.str x,H,I.tok _,⟨_,rfl⟩,h⟩
noncomputable def Gl (X:Cx) (x:Str):Prop:=X.env.kindOf x=some .globalImplicit
theorem sV {E:Value->Shared->Prop} {pins:List (Addr × Obj)} {s:Shared} {σ:St} {H:Hp} {x:Str} {u:Value} {pos:Pos} {Q:Value->Shared->Prop} (I:Inv X pins σ H s) (hg:Gl X x) (hm:X.mg x=some u) (h:Q u s)
  (hd:(x == ("__debug__" : Str))=false:=by decide):wpAny (model X.prog X.w) X.A (eval (.Name x pos) X.env) Q E s:=
 Calls.Name_function_global I.ok.kind hg (Calls.loadGlobal_global (by rw [I.ok.glob];exact I.mod.glob.keeps I.bk) hm h) hd
theorem eC {E:Value->Shared->Prop} {pins:List (Addr × Obj)} {s:Shared} {σ:St} {H:Hp} {x:Str} {u:Value} {pos:Pos} {Q:Value->Shared->Prop} (I:Inv X pins σ H s) (hg:Gl X x) (hm:X.mg x=none) (hv:bootBuiltins x=some u) (h:Q u s)
  (hn:x ≠ "__name__" := by decide) (hd:(x == ("__debug__" : Str))=false:=by decide):wpAny (model X.prog X.w) X.A (eval (.Name x pos) X.env) Q E s:=by
 obtain ⟨mb,h1,h2⟩:=I.mod.blt
 exact Calls.Name_function_global I.ok.kind hg (Calls.loadGlobal_builtin (by rw [I.ok.glob];exact I.mod.glob.keeps I.bk) hm (by rw [I.ok.blt];exact h1.keeps I.bk) ((h2 x hn).trans hv) h) hd
theorem zZ {x:Str} {v:V} {u:Value} {pos:Pos} (hg:Gl X x) (hm:X.mg x=some u) (r:aK v u) (hd:(x == ("__debug__" : Str))=false:=by decide):PE X (.Name x pos) (tC v):=
 fun _ _ _ H _ I h=>sV I hg hm ⟨v,H,I,r,h⟩ hd
theorem ik {x:Str} {v:V} {u:Value} {pos:Pos} (hg:Gl X x) (hm:X.mg x=none) (hv:bootBuiltins x=some u) (r:aK v u) (hn:x ≠ "__name__" := by decide) (hd:(x == ("__debug__" : Str))=false:=by decide):PE X (.Name x pos) (tC v):=
 fun _ _ _ H _ I h=>eC I hg hm hv ⟨v,H,I,r,h⟩ hn hd
variable {a b:Expr} {ta tb:TE} {pos:Pos}
variable {tA tB':TT} {rest:List Expr}
noncomputable def Ja (t u:TT):TT:=fun σ H Q=>t σ H fun c H1=>if c=true then u σ H1 Q else Q false H1
noncomputable def tOr (t u:TT):TT:=fun σ H Q=>t σ H fun c H1=>if c=true then Q true H1 else u σ H1 Q
noncomputable def Jb (t:TT):TT:=fun σ H Q=>t σ H fun c H1=>Q (!c) H1
theorem z6 (ha:PT X a tA):PW X (.BoolOp .And [a] pos) tA:=by
 intro wh pins s σ H Q I h
 refine isTrue_and (thn (ha pins s σ H Q I h) fun c s1 e=>?_)
 cases c with
 | true=>exact isTrue_and_nil e
 | false=>exact e
theorem Es (ha:PT X a tA):PW X (.BoolOp .Or [a] pos) tA:=by
 intro wh pins s σ H Q I h
 refine isTrue_or (thn (ha pins s σ H Q I h) fun c s1 e=>?_)
 cases c with
 | false=>exact isTrue_or_nil e
 | true=>exact e
theorem wq (ha:PT X a tA) (hb:PW X (.BoolOp .And (b::rest) pos) tB'):PW X (.BoolOp .And (a::b::rest) pos) (Ja tA tB'):=by
 intro wh pins s σ H Q I h
 refine isTrue_and (thn (ha pins s σ H _ I h) fun c s1 ⟨H1,I1,q1⟩=>?_)
 cases c with
 | true=>exact hb wh pins s1 σ H1 Q I1 q1
 | false=>exact ⟨H1,I1,q1⟩
theorem Dv (ha:PT X a tA) (hb:PW X (.BoolOp .Or (b::rest) pos) tB'):PW X (.BoolOp .Or (a::b::rest) pos) (tOr tA tB'):=by
 intro wh pins s σ H Q I h
 refine isTrue_or (thn (ha pins s σ H _ I h) fun c s1 ⟨H1,I1,q1⟩=>?_)
 cases c with
 | true=>exact ⟨H1,I1,q1⟩
 | false=>exact hb wh pins s1 σ H1 Q I1 q1
theorem Et (ha:PT X a tA):PT X (.UnaryOp .Not a pos) (Jb tA):=by
 intro pins s σ H Q I h
 exact isTrue_not (ha pins s σ H (fun c H1=>Q (!c) H1) I h)
noncomputable def Dx (ta tb:TE):TE:=fun σ H Q=>ta σ H fun x H1=>∃ c,x = .bl c/\if c=true then tb σ H1 Q else Q (.bl false) H1
noncomputable def Jc (ta tb:TE):TE:=fun σ H Q=>ta σ H fun x H1=>∃ c,x = .bl c/\if c=true then Q (.bl true) H1 else tb σ H1 Q
noncomputable def Dy (ta:TE):TE:=fun σ H Q=>ta σ H fun x H1=>∃ c,x = .bl c/\Q (.bl (!c)) H1
theorem wu {op} {t:TE} (h:PE X a t):PE X (.BoolOp op [a] pos) t:=fun pins s σ H Q I hw=>BoolOp_one (h pins s σ H Q I hw)
theorem ww (ha:PE X a ta) (hb:PE X (.BoolOp .And (b::rest) pos) tb):PE X (.BoolOp .And (a::b::rest) pos) (Dx ta tb):=by
 intro pins s σ H Q I h
 refine BoolOp_and (thn (ha pins s σ H _ I h) fun v s1 ⟨x,H1,I1,r1,q1⟩=>?_)
 obtain ⟨c,rfl,q1⟩:=q1
 cases r1
 refine wpAny_truthy_bool ?_
 cases c with
 | true=>exact hb pins s1 σ H1 Q I1 q1
 | false=>exact ⟨.bl false,H1,I1,rfl,q1⟩
theorem Dz (ha:PE X a ta) (hb:PE X (.BoolOp .Or (b::rest) pos) tb):PE X (.BoolOp .Or (a::b::rest) pos) (Jc ta tb):=by
 intro pins s σ H Q I h
 refine BoolOp_or (thn (ha pins s σ H _ I h) fun v s1 ⟨x,H1,I1,r1,q1⟩=>?_)
 obtain ⟨c,rfl,q1⟩:=q1
 cases r1
 refine wpAny_truthy_bool ?_
 cases c with
 | false=>exact hb pins s1 σ H1 Q I1 q1
 | true=>exact ⟨.bl true,H1,I1,rfl,q1⟩
theorem Eu (ha:PE X a ta):PE X (.UnaryOp .Not a pos) (Dy ta):=by
 intro pins s σ H Q I h
 refine UnaryOp_ (thn (ha pins s σ H _ I h) fun v s1 ⟨x,H1,I1,r1,q1⟩=>?_)
 obtain ⟨c,rfl,q1⟩:=q1
 cases r1
 exact not_of (wpAny_truthy_bool ⟨.bl (!c),H1,I1,rfl,q1⟩)
end
end L2
namespace L2
open PySem PySem.Spec PyProof.Rows
noncomputable def SqL (K:PySem.W.Frag) (H:Hp) (a:Addr) (xs:List V):Prop:=
 Rd H a (.lst xs) ∨
  ∃ (o:Obj) (its:Array Value) (n:Nat),K.lookup a=some o/\o.cls = .type "list"/\o.dict=none/\o.data = .seq its n/\its.size<=sizeLine/\aM xs its.toList
noncomputable def SqT (K:PySem.W.Frag) (H:Hp) (a:Addr) (xs:List V):Prop:=
 Rd H a (.tup xs) ∨
  ∃ (o:Obj) (its:Array Value) (n:Nat),K.lookup a=some o/\o.cls = .type "tuple"/\o.data = .seq its n/\its.size<=sizeLine/\aM xs its.toList
noncomputable def LW:Value->Option V
 | .none=>some .non
 | .bool b=>some (.bl b)
 | .int i _=>some (.int i)
 | .str x _=>some (.str x)
 | .bytes b _=>some (.byt b)
 | .float b _=>some (.flt b)
 | .ref a=>some (.ref a)
 | .type n=>some (.ty n)
 | _=>none
theorem aK.abs {x:V} {u:Value} (r:aK x u):LW u=some x:=by
 cases x with
 | non=>cases r;rfl
 | bl _=>cases r;rfl
 | int _=>obtain ⟨t,rfl⟩:=r;rfl
 | str _=>obtain ⟨t,rfl⟩:=r;rfl
 | byt _=>obtain ⟨t,rfl⟩:=r;rfl
 | flt _=>obtain ⟨t,rfl⟩:=r;rfl
 | ref _=>cases r;rfl
 | ty _=>cases r;rfl
theorem aK.inj {x y:V} {u:Value} (r:aK x u) (q:aK y u):x=y:=Option.some.inj (r.abs.symm.trans q.abs)
theorem aM.inj:∀ {xs ys:List V} {us:List Value},aM xs us->aM ys us->xs=ys
 | _,_,_,.nil,.nil=>rfl
 | _,_,_,.cons r t,.cons r' t'=>by rw [r.inj r',aM.inj t t']
section
variable {X:Cx} {pins:List (Addr × Obj)} {σ:St} {H:Hp} {s:Shared} {a:Addr} {xs ys:List V}
theorem SqL.of {K:PySem.W.Frag} (h:H a=some (.lst xs)):SqL K H a xs:=.inl (.inl h)
theorem SqT.of {K:PySem.W.Frag} (h:H a=some (.tup xs)):SqT K H a xs:=.inl (.inl h)
theorem Inv.list (I:Inv X pins σ H s) (h:SqL X.K H a xs):∃ its:List Value,aM xs its/\PlainL s.heap a its.toArray/\xs.length<=sizeLine:=by
 rcases h with h | ⟨o,its,n,hk,hc,hd,hs,hz,r⟩
 ·obtain ⟨z,its,n,r,e⟩:=h.ok I.hok
  exact ⟨its,r,⟨_,n,e,rfl,rfl,rfl⟩,z⟩
 ·refine ⟨its.toList,r,⟨o,n,I.kIn a o hk,hc,hd,by simpa using hs⟩,?_⟩
  have e:=r.length
  simp only [Array.length_toList] at e
  omega
theorem Inv.tuple (I:Inv X pins σ H s) (h:SqT X.K H a xs):∃ its:List Value,aM xs its/\IsTup s.heap a its.toArray/\xs.length<=sizeLine:=by
 rcases h with h | ⟨o,its,n,hk,hc,hs,hz,r⟩
 ·obtain ⟨z,its,r,p⟩:=h.ok I.hok
  exact ⟨its,r,p.isTup,z⟩
 ·refine ⟨its.toList,r,⟨o,I.kIn a o hk,hc,n,by simpa using hs⟩,?_⟩
  have e:=r.length
  simp only [Array.length_toList] at e
  omega
theorem Inv.list_inj (I:Inv X pins σ H s) (h:SqL X.K H a xs) (h':SqL X.K H a ys):xs=ys:=by
 obtain ⟨its,r,⟨o,n,e,_,_,d⟩,_⟩:=I.list h
 obtain ⟨its',r',⟨o',n',e',_,_,d'⟩,_⟩:=I.list h'
 rw [e] at e';cases e'
 rw [d] at d'
 injection d' with d1 _
 have:its=its':=by simpa using congrArg Array.toList d1
 subst this
 exact r.inj r'
theorem Inv.tuple_inj (I:Inv X pins σ H s) (h:SqT X.K H a xs) (h':SqT X.K H a ys):xs=ys:=by
 obtain ⟨its,r,⟨o,e,_,n,d⟩,_⟩:=I.tuple h
 obtain ⟨its',r',⟨o',e',_,n',d'⟩,_⟩:=I.tuple h'
 rw [e] at e';cases e'
 rw [d] at d'
 injection d' with d1 _
 have:its=its':=by simpa using congrArg Array.toList d1
 subst this
 exact r.inj r'
end
noncomputable abbrev Cx.wish (X:Cx) (E:Value->Shared->Prop):Cx:={ X with xe:=E }
noncomputable abbrev Cx.nox (X:Cx):Cx:=X.wish fun _ _=>False
theorem Cx.Ok.wish {X:Cx} (ok:X.Ok) (E:Value->Shared->Prop):(X.wish E).Ok:=
 ⟨ok.mod,ok.kind,ok.glob,ok.blt,ok.above,ok.inj,ok.has,ok.cab,ok.hd,ok.frames,ok.stk,ok.exf,ok.bs,ok.bsz,ok.noex,ok.exfs,ok.funs,ok.frf⟩
theorem Cx.Ok.unwish {X:Cx} {E:Value->Shared->Prop} (ok:(X.wish E).Ok):X.Ok:=
 ⟨ok.mod,ok.kind,ok.glob,ok.blt,ok.above,ok.inj,ok.has,ok.cab,ok.hd,ok.frames,ok.stk,ok.exf,ok.bs,ok.bsz,ok.noex,ok.exfs,ok.funs,ok.frf⟩
section
variable {X:Cx} {pins:List (Addr × Obj)} {σ:St} {H:Hp} {s:Shared} {E:Value->Shared->Prop}
theorem Inv.wish (I:Inv X pins σ H s) (E:Value->Shared->Prop):Inv (X.wish E) pins σ H s:=⟨I.ok.wish E,I.os,I.bare,I.base,I.loc,I.cell,I.free,I.freeC,I.pin,I.hok,I.len⟩
theorem Inv.unwish (I:Inv (X.wish E) pins σ H s):Inv X pins σ H s:=⟨I.ok.unwish,I.os,I.bare,I.base,I.loc,I.cell,I.free,I.freeC,I.pin,I.hok,I.len⟩
theorem SP.unwish {D:Ends} {f:Flow} {s':Shared} (h:SP (X.wish E) pins D f s'):SP X pins D f s':=by
 cases f with
 | next=>obtain ⟨σ',H',I,q⟩:=h;exact ⟨σ',H',I.unwish,q⟩
 | brk=>obtain ⟨σ',H',I,q⟩:=h;exact ⟨σ',H',I.unwish,q⟩
 | cont=>obtain ⟨σ',H',I,q⟩:=h;exact ⟨σ',H',I.unwish,q⟩
 | ret u=>obtain ⟨v,σ',H',I,r,q⟩:=h;exact ⟨v,σ',H',I.unwish,r,q⟩
theorem PSs.nox {st:List Stmt} {t:TS} (h:PSs X.nox st t):PSs X st t:=fun pins s σ H D I hw=>
 wpAny_mono (h pins s σ H D (I.wish _) hw) (fun _ _ q=>q.unwish) fun _ _ z=>False.elim z
end
section
variable {X:Cx} {st:Stmt} {rest:List Stmt} {t u:TS} {e:Expr} {te:TE} {pos:Pos}
noncomputable def DA:TS:=fun D σ H=>D.nx σ H
noncomputable def Jd (t u:TS):TS:=fun D σ H=>t { D with nx:=u D } σ H
theorem z7:PSs X [] DA:=fun _ _ σ H _ I h=>wpAny_execs_nil ⟨σ,H,I,h⟩
theorem wx (h1:PS X st t) (h2:PSs X rest u):PSs X (st::rest) (Jd t u):=by
 intro pins s σ H D I h
 refine wpAny_execs_cons (thn (h1 pins s σ H { D with nx:=u D } I h) fun f s1 q=>?_)
 cases f with
 | next=>
  obtain ⟨σ',H',I',q⟩:=q
  exact h2 pins s1 σ' H' D I' q
 | ret v=>exact q
 | brk=>exact q
 | cont=>exact q
noncomputable def DB:TS:=fun D σ H=>D.ct σ H
theorem pB:PS X (.Continue pos) DB:=fun _ _ σ H _ I h=>wpAny_Continue ⟨σ,H,I,h⟩
theorem Inv.quiet {pins:List (Addr × Obj)} {σ:St} {H:Hp} {s:Shared} (I:Inv X pins σ H s):interactive X.env=false:=by simp [interactive,I.ok.kind]
noncomputable def DC (te:TE):TS:=fun D σ H=>te σ H fun _ H1=>D.nx σ H1
theorem z8 (he:PE X e te) (hs:swapsWith e none pos.line X.env=pure false:=by rfl):PS X (.Expr e pos) (DC te):=by
 intro pins s σ H D I h
 exact wpAny_Expr_any (thn (he pins s σ H _ I h) fun v s1 ⟨x,H1,I1,r1,q1⟩=>⟨σ,H1,I1,q1⟩) I.quiet hs
noncomputable def Je (te:TE):TS:=fun D σ H=>te σ H D.rt
theorem Ew (he:PE X e te):PS X (.Return (some e) pos) (Je te):=by
 intro pins s σ H D I h
 exact wpAny_Return_some (thn (he pins s σ H _ I h) fun v s1 ⟨x,H1,I1,r1,q1⟩=>⟨x,σ,H1,I1,r1,q1⟩)
noncomputable def Jf (c:TT) (t u:TS):TS:=fun D σ H=>c σ H fun b H1=>if b=true then t D σ H1 else u D σ H1
theorem Jg {c:Expr} {a b:List Stmt} {tc:TT} (hc:PT X c tc) (ha:PSs X a t) (hb:PSs X b u):PS X (.If c a b pos) (Jf tc t u):=by
 intro pins s σ H D I h
 refine wpAny_If (thn (hc pins s σ H _ I h) fun d s1 ⟨H1,I1,q1⟩=>?_)
 cases d with
 | true=>exact ha pins s1 σ H1 D I1 q1
 | false=>exact hb pins s1 σ H1 D I1 q1
noncomputable def Ex:TS:=fun _ _ _=>False
theorem wy:PS X st Ex:=fun _ _ _ _ _ _ h=>h.elim
end
noncomputable abbrev TG:=V->St->Hp->(St->Hp->Prop)->Prop
noncomputable abbrev TGs:=List V->St->Hp->(St->Hp->Prop)->Prop
noncomputable def PG (X:Cx) (target:Expr) (t:TG):Prop:=
 ∀ (pins:List (Addr × Obj)) (s:Shared) (σ:St) (H:Hp) (v:V) (u:Value) (Q:St->Hp->Prop),Inv X pins σ H s->aK v u->t v σ H Q ->
  wpAny (model X.prog X.w) X.A (assign target X.env u) (fun _ s'=>∃ σ' H',Inv X pins σ' H' s'/\Q σ' H') X.xe s
noncomputable def PGs (X:Cx) (ts:List Expr) (t:TGs):Prop:=
 ∀ (pins:List (Addr × Obj)) (s:Shared) (σ:St) (H:Hp) (vs:List V) (us:List Value) (Q:St->Hp->Prop),Inv X pins σ H s->aM vs us->t vs σ H Q ->
  wpAny (model X.prog X.w) X.A (assignInOrder ((assignEach ts X.env).map (·.2)) us) (fun _ s'=>∃ σ' H',Inv X pins σ' H' s'/\Q σ' H') X.xe s
noncomputable abbrev z9:=V->V->V->Hp->(Hp->Prop)->Prop
noncomputable def Ey (X:Cx) (t:z9):Prop:=
 ∀ (pins:List (Addr × Obj)) (s:Shared) (σ:St) (H:Hp) (o i v:V) (ov iv u:Value) (Q:Hp->Prop),Inv X pins σ H s->aK o ov->aK i iv->aK v u->t o i v H Q ->
  wpAny (model X.prog X.w) X.A (setItem ov iv u) (fun _ s'=>∃ H',Inv X pins σ H' s'/\Q H') X.xe s
section
variable {X:Cx} {pos:Pos}
noncomputable def pC (i:Nat):TG:=fun v σ H Q=>Q (σ.set i (some v)) H
theorem Aa {i:Nat} {x:Str} (hN:X.N.Nodup) (hi:X.N[i]?=some x) (hx:Loc X.env.scope x) (hf:X.fn x=true\/X.env.scope.names.lookup x=some .local:=by first | exact .inl rfl | exact .inr rfl | assumption):PG X (.Name x pos) (pC i):=by
 intro pins s σ H v u Q I r h
 exact wpAny_assign_Name (cG I hN hi hx r (fun s' I'=>⟨_,H,I',h⟩) hf)
noncomputable def Jh:TGs:=fun vs σ H Q=>vs=[]/\Q σ H
noncomputable def DD (t:TG) (u:TGs):TGs:=fun vs σ H Q=>∃ v r,vs=v::r/\t v σ H fun σ' H'=>u r σ' H' Q
theorem Ab:PGs X [] Jh:=by
 intro pins s σ H vs us Q I r h
 obtain ⟨e,h⟩:=h
 subst e
 cases r
 exact assignInOrder_nil ⟨σ,H,I,h⟩
theorem wz {e:Expr} {es:List Expr} {t:TG} {u:TGs} (h1:PG X e t) (h2:PGs X es u)
  (hs:(assignEach (e::es) X.env).map (·.2)=assign e X.env::(assignEach es X.env).map (·.2):=by rfl):PGs X (e::es) (DD t u):=by
 intro pins s σ H vs us Q I r h
 obtain ⟨v,vr,e1,h⟩:=h
 subst e1
 cases r with
 | cons r rr=>
  rw [hs]
  refine assignInOrder_cons (thn (h1 pins s σ H _ _ _ I r h) fun _ s1 ⟨σ1,H1,I1,q1⟩=>?_)
  exact h2 pins s1 σ1 H1 _ _ Q I1 rr q1
noncomputable def Ji (K:PySem.W.Frag) (n:Nat) (t:TGs):TG:=fun v σ H Q=>∃ a xs,v = .ref a/\SqT K H a xs/\xs.length=n/\t xs σ H Q
theorem Ez {es:List Expr} {k:Nat} {t:TGs} {n:Nat} (hc:X.calm=true) (h:PGs X es t)
  (hn:(assignEach es X.env).length=n:=by rfl) (hst:(assignEach es X.env).findIdx? (·.1)=none:=by rfl):PG X (.Tuple es k pos) (Ji X.K n t):=by
 intro pins s σ H v u Q I r hw
 obtain ⟨a,xs,e1,hq,hl,hw⟩:=hw
 subst e1
 cases r
 obtain ⟨its,rv,ht,hz⟩:=I.tuple hq
 refine assign_Tuple_tuple (I.ok.hd hc) ht (by simp [hn,<-hl,rv.length]) hst fun h' hx=>?_
 have I1:Inv X pins σ H { s with heap:=h' }:=I.kept (t':=s.toks) fun b o e=>hx b o (Nat.ne_of_lt (Heap.lt_size e)) e
 exact h pins _ σ H xs _ Q I1 (by simpa using rv) hw
noncomputable def Jj (to ti:TE) (t:z9):TG:=fun v σ H Q=>to σ H fun o H1=>ti σ H1 fun i H2=>t o i v H2 fun H3=>Q σ H3
theorem EA {o i:Expr} {to ti:TE} {t:z9} (ho:PE X o to) (hi:PE X i ti) (hs:Ey X t)
  (ha:∀ v,assign (.Subscript o i pos) X.env v=(do
   let ov <-holding [v] (eval o X.env)
   let iv <-holding [v,ov] (eval i X.env)
   standAt pos
   holding [v,ov,iv] (setItem ov iv v)
   release [v,ov,iv] []):=by intro _;rfl):PG X (.Subscript o i pos) (Jj to ti t):=by
 intro pins s σ H v u Q I r h
 rw [ha]
 refine wpAny_bind (wpAny_holding (thn (ho pins s σ H _ I h) fun ov s1 ⟨x,H1,I1,r1,q1⟩=>?_))
 refine wpAny_bind (wpAny_holding (thn (hi pins s1 σ H1 _ I1 q1) fun iv s2 ⟨y,H2,I2,r2,q2⟩=>?_))
 refine wpAny_bind (wpAny_standAt (wpAny_bind (wpAny_holding (thn (hs pins s2 σ H2 x y v ov iv u _ I2 r1 r2 r q2) fun _ s3 ⟨H3,I3,q3⟩=>?_))))
 exact wpAny_release ⟨σ,H3,I3,q3⟩
noncomputable def wD (te:TE) (g:TG):TS:=fun D σ H=>te σ H fun x H1=>g x σ H1 D.nx
theorem wG {tg e:Expr} {te:TE} {g:TG} (he:PE X e te) (hg:PG X tg g) (hs:swapsWithSole [tg] e pos.line X.env=pure false:=by rfl) (hw:swappedStores [tg] e X.env=pure none:=by rfl)
  (h1:(assignEach [tg] X.env).map (·.2)=[assign tg X.env]:=by rfl):PS X (.Assign [tg] e pos) (wD te g):=by
 intro pins s σ H D I h
 refine wpAny_Assign_stores (thn (he pins s σ H _ I h) fun v s1 ⟨x,H1,I1,r1,q1⟩=>?_) hs hw
 rw [h1]
 exact thn (hg pins s1 σ H1 x v _ I1 r1 q1) fun _ s2 q=>q
theorem EB {i:Nat} {x:Str} {e:Expr} {te:TE} {pos':Pos} (hN:X.N.Nodup) (hi:X.N[i]?=some x) (hx:Loc X.env.scope x) (he:PE X e te) (hs:swapsWith e (some (.Name x pos')) pos.line X.env=pure false:=by rfl) (hf:X.fn x=true\/X.env.scope.names.lookup x=some .local:=by first | exact .inl rfl | exact .inr rfl | assumption) :
  PS X (.Assign [.Name x pos'] e pos) (wD te (pC i)):=by
 intro pins s σ H D I h
 refine wpAny_Assign_Name (thn (he pins s σ H _ I h) fun v s1 ⟨y,H1,I1,r1,q1⟩=>?_) hs
 exact cG I1 hN hi hx r1 (fun s2 I2=>⟨_,H1,I2,q1⟩) hf
noncomputable def Jk (i j:Nat) (ta:TA):TS:=fun D σ H=>ta σ H fun vs H1=>∃ v w,vs=[v,w]/\D.nx ((σ.set i (some v)).set j (some w)) H1
theorem EC {i j:Nat} {x y:Str} {a b:Expr} {ta:TA} {px py pt:Pos} {kt k2 pt2} (hc:X.calm=true) (hN:X.N.Nodup) (hi:X.N[i]?=some x) (hj:X.N[j]?=some y) (hij:i ≠ j)
  (hx:X.env.scope.names.lookup x=some .local) (hy:X.env.scope.names.lookup y=some .local) (ha:PA X [a,b] ta)
  (hw:swappedStores [.Tuple [.Name x px,.Name y py] kt pt] (.Tuple [a,b] k2 pt2) X.env=pure (some [x,y]))
  (hs:swapsWithSole [.Tuple [.Name x px,.Name y py] kt pt] (.Tuple [a,b] k2 pt2) pos.line X.env=pure false:=by rfl) :
  PS X (.Assign [.Tuple [.Name x px,.Name y py] kt pt] (.Tuple [a,b] k2 pt2) pos) (Jk i j ta):=by
 intro pins s σ H D I h
 rw [exec_Assign_arm]
 refine wpAny_bind (wpAny_standAt ?_)
 rw [hs]
 refine wpAny_bind (wpAny_pure ?_)
 rw [if_neg (by decide)]
 refine wpAny_bind (Tuple_ (thn (ha _ pins s σ H _ I h) fun us s1 ⟨vs,H1,I1,r1,q1⟩=>?_))
 obtain ⟨v,w,e1,q1⟩:=q1
 subst e1
 obtain ⟨u1,u2,rfl,rv,rw'⟩:∃ u1 u2,us=[u1,u2]/\aK v u1/\aK w u2:=by
  cases r1 with
  | cons p q=>
   cases q with
   | cons p' q'=>
    cases q'
    exact ⟨_,_,rfl,p,p'⟩
 refine wpAny_newObj_type ?_ (by show 2<=sizeLine;decide)
 have I2:Inv X pins σ H1 { s1 with heap:=s1.heap.push { cls:=.type "tuple", data:=.seq [u1,u2].toArray } }:=I1.kept (t':=s1.toks) fun b o e=>Heap.get?_push_of_some _ e
 rw [hw]
 refine wpAny_bind (wpAny_pure ?_)
 show wpAny (model X.prog X.w) X.A (do rule "assign.swapped-stores"; let items <-unpackItems (.ref s1.heap.objs.size) 2 none;assignInOrder [fun v=>bindName X.env y v,fun v=>bindName X.env x v] items.reverse;pure Flow.next) _ _ _
 refine wpAny_bind (wpAny_rule (wpAny_bind (unpackItems_tuple (items:=#[u1,u2]) (I.ok.hd hc) (IsTup.new s1.heap _) fun h' hx'=>?_)))
 have I3:=I2.kept (h':=h') (t':=s1.toks) fun b o e=>hx' b o (Nat.ne_of_lt (Heap.lt_size e)) e
 show wpAny _ _ (assignInOrder [fun v=>bindName X.env y v,fun v=>bindName X.env x v] [u2,u1] >>= fun _=>pure Flow.next) _ _ _
 refine wpAny_bind (assignInOrder_cons (wpAny_bindName (cG I3 hN hj (.inl hy) rw' (fun s2 I4=>?_) (.inr hy))))
 refine assignInOrder_cons (wpAny_bindName (cG I4 hN hi (.inl hx) rv (fun s3 I5=>assignInOrder_nil (wpAny_pure ?_)) (.inr hx)))
 rw [List.set_comm _ _ (Ne.symm hij)] at I5
 exact ⟨_,H1,I5,q1⟩
end
structure It where
 go:Nat->Hp->Prop
 yld:Nat->Hp->V->Hp->Prop
 stop:Nat->Hp->Prop
noncomputable def fA (X:Cx) (pins:List (Addr × Obj)) (H:Hp) (b:Addr):Prop:=
 H b=none/\b ≠ X.env.locals/\b ∉ X.fs/\(b ∈ X.ex\/X.s₀.heap.objs.size<=b)/\(∀ x c,X.env.cells.lookup x=some c->c ≠ b)/\∀ p ∈ X.pn++pins,p.1 ≠ b
theorem Inv.fpOk {X:Cx} {pins:List (Addr × Obj)} {σ:St} {H H':Hp} {s:Shared} {b:Addr} (I:Inv X pins σ H s) (hb:s.heap.objs.size<=b) (hn:H' b=none):fA X pins H' b:=by
 refine ⟨hn,Nat.ne_of_gt (Nat.lt_of_lt_of_le I.lt hb),I.nofs hb,.inr (Nat.le_trans I.sz hb),fun x c e z=>?_,fun p hp z=>?_⟩
 ·obtain ⟨v,q⟩:=I.cell x c e
  exact absurd (Nat.lt_of_lt_of_le q.lt (by rw [z];exact hb)) (Nat.lt_irrefl _)
 ·exact absurd (Nat.lt_of_lt_of_le (Heap.lt_size (I.pin p hp).1) (by rw [z];exact hb)) (Nat.lt_irrefl _)
structure Turn (P:Program) (w:World) (K:PySem.W.Frag) (tg:Expr) (J:It) (fp:List Addr) (it:Addr) (tn:Nat->Heap->Prop):Prop where
 mem:it ∈ fp
 obj:∀ i h,tn i h->∀ b ∈ fp,∃ o,h.get? b=some o/\∀ v,o.data ≠ .cell v
 keep:∀ i h h',tn i h->(∀ b ∈ fp,∀ o,h.get? b=some o->h'.get? b=some o)->tn i h'
 item:∀ (X:Cx),X.prog=P->X.w=w->X.K=K->X.calm=true->∀ (i:Nat) (pins:List (Addr × Obj)) (s:Shared) (σ:St) (H:Hp) (E:Value->Shared->Prop),Inv X pins σ H s->(∀ b ∈ fp,fA X pins H b)->tn i s.heap->J.go i H ->
  wpAny (model P w) X.A (pyNext (.ref it)) (fun r s1=>∃ u,r=some u ∧
   wpAny (model P w) X.A (letOwnedTupleGo tg (.ref it) u) (fun _ s2=>∃ x H',Inv X pins σ H' s2/\aK x u/\J.yld i H x H'/\tn (i+1) s2.heap/\∀ b ∈ fp,H' b=none) E s1) E s
 done:∀ (X:Cx),X.prog=P->X.w=w->X.K=K->X.calm=true->∀ (i:Nat) (pins:List (Addr × Obj)) (s:Shared) (σ:St) (H:Hp) (E:Value->Shared->Prop),Inv X pins σ H s->(∀ b ∈ fp,fA X pins H b)->tn i s.heap->J.stop i H ->
  wpAny (model P w) X.A (pyNext (.ref it)) (fun r s1=>r=none/\Inv X pins σ H s1) E s
 self:∀ (A:Around) (i:Nat) (s:Shared) (Q:Value->Shared->Prop) (E:Value->Shared->Prop),tn i s.heap->Q (.ref it) s->wpAny (model P w) A (pyIter (.ref it)) Q E s
noncomputable abbrev TI:=St->Hp->(It->Hp->Prop)->Prop
noncomputable def PIE (X:Cx) (pins:List (Addr × Obj)) (σ:St) (tg:Expr) (R:It->Hp->Prop) (itv:Value) (s2:Shared):Prop:=
 ∃ (it:Addr) (fp:List Addr) (tn:Nat->Heap->Prop) (J:It) (H':Hp),itv = .ref it/\Inv X pins σ H' s2/\Turn X.prog X.w X.K tg J fp it tn/\tn 0 s2.heap/\(∀ b ∈ fp,fA X pins H' b)/\R J H'
noncomputable def PI (X:Cx) (tg iter:Expr) (wi:TI):Prop:=
 ∀ (pins:List (Addr × Obj)) (s:Shared) (σ:St) (H:Hp) (R:It->Hp->Prop),Inv X pins σ H s->wi σ H R ->
  wpAny (model X.prog X.w) X.A (eval iter X.env) (fun v s1=>wpAny (model X.prog X.w) X.A (pyIter v) (PIE X pins σ tg R) X.xe s1) X.xe s
theorem wH {M:Model} {A:Around} {E:Value->Shared->Prop} {s:Shared} {tg:Expr} {it:Addr} {u:Value} {o:Obj} {n:String} {vs:Array Value} {Q:Unit->Shared->Prop} (ho:s.heap.get? it=some o) (hc:o.cls = .type n) (hd:o.data = .fields vs)
  (hn:["enumerate", "zip", "dict_itemiterator", "dict_reverseitemiterator", "odict_iterator", "itertools.zip_longest", "itertools.pairwise"].contains n=false) (hQ:Q () s):wpAny M A (letOwnedTupleGo tg (.ref it) u) Q E s:=by
 unfold letOwnedTupleGo
 cases tg <;> first
  | exact wpAny_pure hQ
  | (cases u <;> first
    | exact wpAny_pure hQ
    | (refine wpAny_bind (wpAny_load ho ?_)
       rw [hc,hd]
       show wpAny M A (if (["enumerate", "zip", "dict_itemiterator", "dict_reverseitemiterator", "odict_iterator", "itertools.zip_longest", "itertools.pairwise"].contains n && vs[0]? == some (rawInt _))=true then _ else _) Q E s
       rw [if_neg (by intro h;rw [hn,Bool.false_and] at h;cases h)]
       exact wpAny_pure hQ))
noncomputable def Itl (K:PySem.W.Frag) (a:Addr):It:=
 ⟨fun i H=>∃ xs x,SqL K H a xs/\xs[i]?=some x,fun i H x H'=>H'=H/\∀ xs,SqL K H a xs->xs[i]?=some x,fun i H=>∃ xs,SqL K H a xs/\xs.length<=i⟩
noncomputable def Itt (K:PySem.W.Frag) (a:Addr):It:=
 ⟨fun i H=>∃ xs x,SqT K H a xs/\xs[i]?=some x,fun i H x H'=>H'=H/\∀ xs,SqT K H a xs->xs[i]?=some x,fun i H=>∃ xs,SqT K H a xs/\xs.length<=i⟩
noncomputable def Itr (lo:Int) (n:Nat):It:=⟨fun i _=>i < n,fun i H x H'=>H'=H/\x = .int (lo+i),fun i _=>n<=i⟩
theorem uD {P:Program} {w:World} {K:PySem.W.Frag} {tg:Expr} (a it:Addr):Turn P w K tg (Itl K a) [it] it (fun i h=>h.IsListIter it a i) where
 mem:=by simp
 obj:=fun i h st b hb=>by
  have e:b=it:=by simpa using hb
  subst e
  obtain ⟨o,e,c,d⟩:=st
  exact ⟨o,e,fun v z=>by rw [d] at z;cases z⟩
 keep:=fun i h h' st k=>st.at fun o e=>k it (by simp) o e
 item:=by
  intro X hP hw hK hc i pins s σ H E I hf st hg
  subst hP hw hK
  obtain ⟨xs,x,hq,hx⟩:=hg
  obtain ⟨its,rv,p,hz⟩:=I.list hq
  obtain ⟨u,hu,ru⟩:=rv.get hx
  obtain ⟨f0,f1,f2,f3,f4,f5⟩:=hf it (by simp)
  refine wpAny_pyNext_list_item st p.isList (x:=u) (by simpa using hu) fun h' st' sb=>?_
  have I1:Inv X pins σ H { s with heap:=h' }:=I.turned (t':=s.toks) (fun b o hb e=>(sb.2 b hb).trans e) f0 f1 f3 f4 f5
  obtain ⟨o,e,c,d⟩:=id st'
  exact ⟨u,rfl,wH (s:={ s with heap:=h' }) e c d (by decide) ⟨x,H,I1,ru,⟨rfl,fun ys hy=>by rw [I.list_inj hy hq];exact hx⟩,st',fun b hb=>(hf b hb).1⟩⟩
 done:=by
  intro X hP hw hK hc i pins s σ H E I hf st hg
  subst hP hw hK
  obtain ⟨xs,hq,hx⟩:=hg
  obtain ⟨its,rv,p,hz⟩:=I.list hq
  obtain ⟨f0,f1,f2,f3,f4,f5⟩:=hf it (by simp)
  have hl:=rv.length
  exact wpAny_pyNext_list_end (I.ok.hd hc) st p.isList (by simp;omega) fun h' eb=>⟨rfl,I.turned (t':=s.toks) (fun b o hb e=>eb b o hb e) f0 f1 f3 f4 f5⟩
 self:=fun _ _ _ _ _ st h=>wpAny_pyIter_listiter st h
theorem qV {P:Program} {w:World} {K:PySem.W.Frag} {tg:Expr} (a it:Addr):Turn P w K tg (Itt K a) [it] it (fun i h=>h.IsTupleIter it a i) where
 mem:=by simp
 obj:=fun i h st b hb=>by
  have e:b=it:=by simpa using hb
  subst e
  obtain ⟨o,e,c,d⟩:=st
  exact ⟨o,e,fun v z=>by rw [d] at z;cases z⟩
 keep:=fun i h h' st k=>st.at fun o e=>k it (by simp) o e
 item:=by
  intro X hP hw hK hc i pins s σ H E I hf st hg
  subst hP hw hK
  obtain ⟨xs,x,hq,hx⟩:=hg
  obtain ⟨its,rv,p,hz⟩:=I.tuple hq
  obtain ⟨u,hu,ru⟩:=rv.get hx
  obtain ⟨f0,f1,f2,f3,f4,f5⟩:=hf it (by simp)
  refine wpAny_pyNext_tuple_item st (show s.heap.IsTuple a its.toArray from p) (x:=u) (by simpa using hu) fun h' st' sb=>?_
  have I1:Inv X pins σ H { s with heap:=h' }:=I.turned (t':=s.toks) (fun b o hb e=>(sb.2 b hb).trans e) f0 f1 f3 f4 f5
  obtain ⟨o,e,c,d⟩:=id st'
  exact ⟨u,rfl,wH (s:={ s with heap:=h' }) e c d (by decide) ⟨x,H,I1,ru,⟨rfl,fun ys hy=>by rw [I.tuple_inj hy hq];exact hx⟩,st',fun b hb=>(hf b hb).1⟩⟩
 done:=by
  intro X hP hw hK hc i pins s σ H E I hf st hg
  subst hP hw hK
  obtain ⟨xs,hq,hx⟩:=hg
  obtain ⟨its,rv,p,hz⟩:=I.tuple hq
  obtain ⟨f0,f1,f2,f3,f4,f5⟩:=hf it (by simp)
  have hl:=rv.length
  exact wpAny_pyNext_tuple_end (I.ok.hd hc) st (show s.heap.IsTuple a its.toArray from p) (by simp;omega) fun h' eb=>⟨rfl,I.turned (t':=s.toks) (fun b o hb e=>eb b o hb e) f0 f1 f3 f4 f5⟩
 self:=fun _ _ _ _ _ st h=>wpAny_pyIter_tupleiter st h
theorem qW {P:Program} {w:World} {K:PySem.W.Frag} {tg:Expr} (it:Addr) (lo:Int) (n:Nat):Turn P w K tg (Itr lo n) [it] it (fun i h=>IsRangeIter h it (lo+(i:Nat) * 1) ((n:Int) - (i:Nat)) 1) where
 mem:=by simp
 obj:=fun i h st b hb=>by
  have e:b=it:=by simpa using hb
  subst e
  exact ⟨_,st,fun v z=>by
   have z':Data.fields _=Data.cell v:=z
   cases z'⟩
 keep:=fun i h h' st k=>k it (by simp) _ st
 item:=by
  intro X hP hw hK hc i pins s σ H E I hf st hg
  subst hP hw hK
  obtain ⟨f0,f1,f2,f3,f4,f5⟩:=hf it (by simp)
  have W:=Walks.range (prog:=X.prog) (w:=X.w) (I.ok.hd hc) it lo 1 n
  refine W.item i s _ _ hg st fun v h' tk hv st' kk=>?_
  obtain ⟨t,rfl⟩:=hv
  have I1:Inv X pins σ H { s with heap:=h',toks:=tk }:=I.turned (fun b o hb e=>kk b o (by simpa using hb) e) f0 f1 f3 f4 f5
  refine ⟨_,rfl,wH (s:={ s with heap:=h',toks:=tk }) (n := "range_iterator") st' rfl rfl (by decide) ⟨.int (lo+i),H,I1,⟨t,?_⟩,⟨rfl,rfl⟩,st',fun b hb=>(hf b hb).1⟩⟩
  rw [Int.mul_one]
 done:=by
  intro X hP hw hK hc i pins s σ H E I hf st hg
  subst hP hw hK
  obtain ⟨f0,f1,f2,f3,f4,f5⟩:=hf it (by simp)
  exact wpAny_pyNext_range_end (I.ok.hd hc) st (by have:n<=i:=hg;omega) fun h' eb=>⟨rfl,I.turned (t':=s.toks) (fun b o hb e=>eb b o hb e) f0 f1 f3 f4 f5⟩
 self:=fun _ _ _ _ _ st h=>wpAny_pyIter_rangeiter st h
end L2
namespace L2
open PySem PySem.Spec PyProof.Rows
section
variable {X:Cx} {tg:Expr}
noncomputable def wJ (K:PySem.W.Frag) (tl:TE):TI:=fun σ H R=>tl σ H fun x H1=>∃ a,x = .ref a/\(∃ xs,SqL K H1 a xs)/\R (Itl K a) H1
noncomputable def Jl (K:PySem.W.Frag) (tl:TE):TI:=fun σ H R=>tl σ H fun x H1=>∃ a,x = .ref a/\(∃ xs,SqT K H1 a xs)/\R (Itt K a) H1
theorem sW {l:Expr} {tl:TE} (hl:PE X l tl):PI X tg l (wJ X.K tl):=by
 intro pins s σ H R I h
 refine thn (hl pins s σ H _ I h) fun v s1 ⟨x,H1,I1,r1,q1⟩=>?_
 obtain ⟨a,e,⟨xs,hq⟩,q⟩:=q1
 subst e
 cases r1
 obtain ⟨its,rv,p,hz⟩:=I1.list hq
 refine wpAny_pyIter_list p.isList ?_
 refine ⟨s1.heap.objs.size,[s1.heap.objs.size],_,_,H1,rfl,I1.kept (t':=s1.toks) fun b o e=>Heap.get?_push_of_some _ e,uD a _,⟨_,Heap.get?_push_size _ rfl,rfl,rfl⟩,fun b hb=>?_,q⟩
 have e:b=s1.heap.objs.size:=by simpa using hb
 subst e
 exact I1.fpOk (Nat.le_refl _) (I1.hok.fresh (Nat.le_refl _))
theorem ED {l:Expr} {tl:TE} (hl:PE X l tl):PI X tg l (Jl X.K tl):=by
 intro pins s σ H R I h
 refine thn (hl pins s σ H _ I h) fun v s1 ⟨x,H1,I1,r1,q1⟩=>?_
 obtain ⟨a,e,⟨xs,hq⟩,q⟩:=q1
 subst e
 cases r1
 obtain ⟨its,rv,p,hz⟩:=I1.tuple hq
 refine wpAny_pyIter_tuple (show s1.heap.IsTuple a its.toArray from p) ?_
 refine ⟨s1.heap.objs.size,[s1.heap.objs.size],_,_,H1,rfl,I1.kept (t':=s1.toks) fun b o e=>Heap.get?_push_of_some _ e,qV a _,⟨_,Heap.get?_push_size _ rfl,rfl,rfl⟩,fun b hb=>?_,q⟩
 have e:b=s1.heap.objs.size:=by simpa using hb
 subst e
 exact I1.fpOk (Nat.le_refl _) (I1.hok.fresh (Nat.le_refl _))
theorem pD {pins:List (Addr × Obj)} {σ:St} {H:Hp} {s:Shared} {R:It->Hp->Prop} {E:Value->Shared->Prop} {lo hi:Int} {t u v:Tok} {tk:Nat} (I:Inv X pins σ H s) (h1:-(2 ^ 62)<=lo) (h2:lo < 2 ^ 62) (h3:-(2 ^ 62)<=hi) (h4:hi < 2 ^ 62)
  (q:R (Itr lo (hi - lo).toNat) H):wpAny (model X.prog X.w) X.A (pyIter (.ref s.heap.objs.size)) (PIE X pins σ tg R) E { s with heap:=s.heap.push { cls:=.type "range", data:=.fields #[.int lo t,.int hi u,.int 1 v] },toks:=tk }:=by
 refine wpAny_pyIter_range (IsRange.new ..) (small_one h1 h2 h3 h4) ?_
 have I1:Inv X pins σ H { s with heap:=s.heap.push { cls:=.type "range", data:=.fields #[.int lo t,.int hi u,.int 1 v] },toks:=tk }:=I.kept fun b o e=>Heap.get?_push_of_some _ e
 refine ⟨(s.heap.push { cls:=.type "range", data:=.fields #[.int lo t,.int hi u,.int 1 v] }).objs.size,[(s.heap.push { cls:=.type "range", data:=.fields #[.int lo t,.int hi u,.int 1 v] }).objs.size],_,_,H,rfl,
  I1.kept (t':=tk) fun b o e=>Heap.get?_push_of_some _ e,qW _ lo (hi - lo).toNat,?_,fun b hb=>?_,q⟩
 ·have e1:lo+((0:Nat):Int) * 1=lo:=by simp
  have e2:(((hi - lo).toNat:Nat):Int) - ((0:Nat):Int)=Builtin.Range.rangeSize lo hi 1:=by rw [rangeSize_one];split <;> omega
  show IsRangeIter _ _ (lo+((0:Nat):Int) * 1) ((((hi - lo).toNat:Nat):Int) - ((0:Nat):Int)) 1
  rw [e1,e2]
  exact Heap.get?_push_size _ rfl
 ·have e:b=(s.heap.push { cls:=.type "range", data:=.fields #[.int lo t,.int hi u,.int 1 v] }).objs.size:=by simpa using hb
  subst e
  exact I1.fpOk (Nat.le_refl _) (I1.hok.fresh (Nat.le_refl _))
noncomputable def DE (ta:TA):TI:=fun σ H R=>ta σ H fun vs H1=>∃ j:Int,vs=[.int j]/\-(2 ^ 62)<=j/\j < 2 ^ 62/\R (Itr 0 j.toNat) H1
noncomputable def DF (ta:TA):TI:=fun σ H R=>ta σ H fun vs H1=>∃ i j:Int,vs=[.int i,.int j]/\(-(2 ^ 62)<=i/\i < 2 ^ 62/\-(2 ^ 62)<=j/\j < 2 ^ 62)/\R (Itr i (j - i).toNat) H1
theorem uE {a:Expr} {ta:TA} {p pos:Pos} (hg:Gl X "range") (hm:X.mg "range" = none) (ha:PA X [a] ta) (hs:starEach [a] X.env=[(false,eval a X.env)]:=by rfl):PI X tg (.Call (.Name "range" p) [a] [] pos) (DE ta):=by
 intro pins s σ H R I h
 refine Call_ (eC I hg hm boot_range (PyProof.Rows.callWith_type1 (thn (ha pos pins s σ H _ I h) fun us s1 ⟨vs,H1,I1,r1,q1⟩=>?_) hs rfl))
 obtain ⟨j,e,q1,q2,q⟩:=q1
 subst e
 cases r1 with
 | cons r rr=>
  cases rr
  obtain ⟨t,rfl⟩:=r
  exact call_range_1 (pD I1 (by omega) (by omega) q1 q2 (by simpa using q))
theorem uF {a b:Expr} {ta:TA} {p pos:Pos} (hg:Gl X "range") (hm:X.mg "range" = none) (ha:PA X [a,b] ta) (hs:starEach [a,b] X.env=[(false,eval a X.env),(false,eval b X.env)]:=by rfl) (hs2:starEach [b] X.env=[(false,eval b X.env)]:=by rfl) :
  PI X tg (.Call (.Name "range" p) [a,b] [] pos) (DF ta):=by
 intro pins s σ H R I h
 refine Call_ (eC I hg hm boot_range (PyProof.Rows.callWith_type1 (thn (ha pos pins s σ H _ I h) fun us s1 ⟨vs,H1,I1,r1,q1⟩=>?_) (by rw [hs,hs2]) (by rw [hs2];rfl)))
 obtain ⟨i,j,e,⟨q1,q2,q3,q4⟩,q⟩:=q1
 subst e
 cases r1 with
 | cons r rr=>
  cases rr with
  | cons r' rr=>
   cases rr
   obtain ⟨t,rfl⟩:=r
   obtain ⟨t',rfl⟩:=r'
   exact call_range_2 (pD I1 q1 q2 q3 q4 q)
noncomputable def Jm (wi:TI) (g:TG) (tb:TS):TS:=fun D σ H=>wi σ H fun J H1=>∃ W:Nat->Nat->St->Hp->Prop,(∃ m,W 0 m σ H1)/\∀ i m σ H,W i m σ H ->
 (J.stop i H/\D.nx σ H)\/(J.go i H/\∃ N:St->Hp->Prop,(∀ σ' H',N σ' H'->∃ m',m' < m/\W (i+1) m' σ' H')/\∀ x H',J.yld i H x H'->g x σ H' fun σ2 H2=>tb { D with nx:=N,ct:=N,bk:=D.nx } σ2 H2)
noncomputable def kg (fp:List Addr) (h:Heap):List (Addr × Obj):=fp.filterMap fun b=>(h.get? b).map fun o=>(b,o)
theorem eD {fp:List Addr} {h:Heap} {b:Addr} {o:Obj} (hb:b ∈ fp) (e:h.get? b=some o):(b,o) ∈ kg fp h:=List.mem_filterMap.mpr ⟨b,hb,by rw [e];rfl⟩
theorem uG {fp:List Addr} {h:Heap} {p:Addr × Obj} (hp:p ∈ kg fp h):p.1 ∈ fp/\h.get? p.1=some p.2:=by
 obtain ⟨b,hb,e⟩:=List.mem_filterMap.mp hp
 cases q:h.get? b with
 | none=>rw [q] at e;cases e
 | some o=>
  rw [q] at e
  have e':(b,o)=p:=Option.some.inj e
  subst e'
  exact ⟨hb,q⟩
theorem Inv.pinned {pins:List (Addr × Obj)} {σ:St} {H:Hp} {s:Shared} {fp:List Addr} (I:Inv X pins σ H s) (hf:∀ b ∈ fp,fA X pins H b) (ho:∀ b ∈ fp,∃ o,s.heap.get? b=some o/\∀ v,o.data ≠ .cell v):Inv X (pins++kg fp s.heap) σ H s:=
 I.pins_of fun p hp=>(List.mem_append.mp hp).elim (fun z=>I.pin p (List.mem_append_right _ z)) fun z=>by
  obtain ⟨hb,e⟩:=uG z
  obtain ⟨f0,f1,f2,_⟩:=hf p.1 hb
  obtain ⟨o,e',d⟩:=ho p.1 hb
  rw [e] at e';cases e'
  exact ⟨e,f0,f1,f2,d⟩
theorem Inv.unpinned {pins pl:List (Addr × Obj)} {σ:St} {H:Hp} {s:Shared} (I:Inv X (pins++pl) σ H s):Inv X pins σ H s:=I.pins_of fun p hp=>I.pin p (List.mem_append_right _ (List.mem_append_left _ hp))
theorem EF {iter:Expr} {body:List Stmt} {wi:TI} {g:TG} {tb:TS} {pos:Pos} (hp:PassesOwn (model X.prog X.w) X.A X.env X.xe) (hc:X.calm=true) (hi:PI X tg iter wi) (hg:PG X tg g) (hb:PSs X body tb)
  (hs:∀ x,foldedSetIterable iter X.env x=pure x:=by intro _;rfl):PS X (.For tg iter body [] pos) (Jm wi g tb):=by
 intro pins s σ H D I h
 refine wpAny_For (thn (hi pins s σ H _ I h) fun v s1 h1=>thn h1 fun itv s2 h2=>?_) hs
 obtain ⟨it,fp,tn,J,H2,e,I2,T,st2,f2,W,⟨m0,w0⟩,turn⟩:=h2
 subst e
 have stat:∀ {H':Hp},(∀ b ∈ fp,H' b=none)->∀ b ∈ fp,fA X pins H' b:=fun hn b hb=>⟨hn b hb,(f2 b hb).2⟩
 refine codeAny_forLoop_any (fun n s'=>∃ i σ' H',Inv X pins σ' H' s'/\tn i s'.heap/\(∀ b ∈ fp,H' b=none)/\W i n σ' H') ?_ m0 ⟨0,σ,H2,I2,st2,fun b hb=>(f2 b hb).1,w0⟩
 rintro n s3 ⟨i,σ3,H3,I3,st3,fr3,w3⟩
 rcases turn i n σ3 H3 w3 with ⟨stop,qn⟩ | ⟨go,N,hN,step⟩
 ·refine wpAny_passesOwn hp (thn (T.done X rfl rfl rfl hc i pins s3 σ3 H3 X.xe I3 (stat fr3) st3 stop) fun r s4 ⟨hr,I4⟩=>?_)
  subst hr
  exact wpAny_execs_nil ⟨σ3,H3,I4,qn⟩
 ·refine wpAny_passesOwn hp (thn (T.item X rfl rfl rfl hc i pins s3 σ3 H3 X.xe I3 (stat fr3) st3 go) fun r s4 ⟨u,hr,h4⟩=>?_)
  subst hr
  refine wpAny_passesOwn hp (thn h4 fun _ s5 ⟨x,H5,I5,r5,y5,st5,fr5⟩=>?_)
  have I5':=I5.pinned (stat fr5) (T.obj _ _ st5)
  refine wpAny_passesOwn hp (thn (hg _ s5 σ3 H5 x u _ I5' r5 (step x H5 y5)) fun _ s6 ⟨σ6,H6,I6,q6⟩=>?_)
  refine wpAny_passesOwn hp (thn (hb _ s6 σ6 H6 _ I6 q6) fun f s7 q7=>?_)
  have again:∀ {σ7:St} {H7:Hp},Inv X (pins++kg fp s5.heap) σ7 H7 s7->N σ7 H7->∃ m,m < n/\∃ i σ' H',Inv X pins σ' H' s7/\tn i s7.heap/\(∀ b ∈ fp,H' b=none)/\W i m σ' H':=fun {σ7 H7} I7 n7=>by
   obtain ⟨m',hm,w7⟩:=hN σ7 H7 n7
   refine ⟨m',hm,i+1,σ7,H7,I7.unpinned,T.keep _ _ _ st5 fun b hb o e=>(I7.pin (b,o) (List.mem_append_right _ (List.mem_append_right _ (eD hb e)))).1,fun b hb=>?_,w7⟩
   obtain ⟨o,e,d⟩:=T.obj _ _ st5 b hb
   exact (I7.pin (b,o) (List.mem_append_right _ (List.mem_append_right _ (eD hb e)))).2.1
  cases f with
  | next=>obtain ⟨σ7,H7,I7,n7⟩:=q7;exact again I7 n7
  | cont=>obtain ⟨σ7,H7,I7,n7⟩:=q7;exact again I7 n7
  | brk=>obtain ⟨σ7,H7,I7,q7⟩:=q7;exact ⟨σ7,H7,I7.unpinned,q7⟩
  | ret v=>obtain ⟨x7,σ7,H7,I7,r7,q7⟩:=q7;exact ⟨x7,σ7,H7,I7.unpinned,r7,q7⟩
end
end L2
namespace L2
open PySem PySem.Spec PyProof.Rows
noncomputable abbrev R2:=V->V->Hp->VK->Prop
noncomputable def OpR (X:Cx) (f:Value->Value->Sem Value) (r:R2):Prop:=
 ∀ (pins:List (Addr × Obj)) (s:Shared) (σ:St) (H:Hp) (x y:V) (v u:Value) (Q:VK),Inv X pins σ H s->aK x v->aK y u->r x y H Q ->
  wpAny (model X.prog X.w) X.A (f v u) (EP X pins σ Q) X.xe s
noncomputable def UnR (X:Cx) (f:Value->Sem Value) (r:V->Hp->VK->Prop):Prop:=
 ∀ (pins:List (Addr × Obj)) (s:Shared) (σ:St) (H:Hp) (x:V) (v:Value) (Q:VK),Inv X pins σ H s->aK x v->r x H Q ->
  wpAny (model X.prog X.w) X.A (f v) (EP X pins σ Q) X.xe s
noncomputable def aZ (X:Cx) (f:Value) (r:List V->Hp->VK->Prop):Prop:=
 ∀ (pins:List (Addr × Obj)) (s:Shared) (σ:St) (H:Hp) (xs:List V) (us:List Value) (Q:VK),Inv X pins σ H s->aM xs us->r xs H Q ->
  wpAny (model X.prog X.w) X.A (call f us) (EP X pins σ Q) X.xe s
noncomputable def LX (X:Cx) (r:V->Hp->(Bool->Hp->Prop)->Prop):Prop:=
 ∀ (pins:List (Addr × Obj)) (s:Shared) (σ:St) (H:Hp) (x:V) (v:Value) (Q:Bool->Hp->Prop),Inv X pins σ H s->aK x v->r x H Q ->
  wpAny (model X.prog X.w) X.A (truthy v) (TP X pins σ Q) X.xe s
noncomputable def tOp (r:R2) (ta tb:TE):TE:=fun σ H Q=>ta σ H fun x H1=>tb σ H1 fun y H2=>r x y H2 Q
noncomputable def tUn (r:V->Hp->VK->Prop) (ta:TE):TE:=fun σ H Q=>ta σ H fun x H1=>r x H1 Q
noncomputable def rI (C:Int->Int->Prop) (g:Int->Int->V):R2:=fun x y H Q=>∃ i j,x = .int i/\y = .int j/\C i j/\Q (g i j) H
noncomputable def rI0 (g:Int->Int->V):R2:=fun x y H Q=>∃ i j,x = .int i/\y = .int j/\Q (g i j) H
noncomputable def rU (g:Int->V):V->Hp->VK->Prop:=fun x H Q=>∃ i,x = .int i/\Q (g i) H
section
variable {X:Cx} {a b c:Expr} {ta tb tc:TE} {pos:Pos}
theorem EG (ha:PE X a ta) (hb:PE X b tb) {pins:List (Addr × Obj)} {s:Shared} {σ:St} {H:Hp} {R:V->V->Hp->Prop} (I:Inv X pins σ H s)
  (h:ta σ H fun x H1=>tb σ H1 fun y H2=>R x y H2) {Q:Value->Shared->Prop} {f:Value->Value->Sem Value}
  (hf:∀ v u s2 x y H2,Inv X pins σ H2 s2->aK x v->aK y u->R x y H2->wpAny (model X.prog X.w) X.A (f v u) Q X.xe s2) :
  wpAny (model X.prog X.w) X.A (eval a X.env) (fun v s₁=>wpAny (model X.prog X.w) X.A (eval b X.env) (fun u s₂=>wpAny (model X.prog X.w) X.A (f v u) Q X.xe s₂) X.xe s₁) X.xe s:=by
 refine thn (ha pins s σ H _ I h) fun v s1 ⟨x,H1,I1,r1,q1⟩=>?_
 refine thn (hb pins s1 σ H1 _ I1 q1) fun u s2 ⟨y,H2,I2,r2,q2⟩=>?_
 exact hf v u s2 x y H2 I2 r1 r2 q2
theorem Jn {op:Operator} {r:R2} (ho:OpR X (binaryOp op) r) (ha:PE X a ta) (hb:PE X b tb):PE X (.BinOp a op b pos) (tOp r ta tb):=by
 intro pins s σ H Q I h
 exact wpAny_BinOp (EG ha hb I h fun v u s2 x y H2 I2 rx ry q=>ho pins s2 σ H2 x y v u Q I2 rx ry q)
theorem Jo {op:UnaryOp} {r:V->Hp->VK->Prop} (ho:UnR X (unaryOp op) r) (ha:PE X a ta):PE X (.UnaryOp op a pos) (tUn r ta):=by
 intro pins s σ H Q I h
 exact UnaryOp_ (thn (ha pins s σ H _ I h) fun v s1 ⟨x,H1,I1,r1,q1⟩=>ho pins s1 σ H1 x v Q I1 r1 q1)
theorem opI {f:Value->Value->Sem Value} {C:Int->Int->Prop} {g:Int->Int->Int}
  (rule:∀ (i j:Int) (t u:Tok) (s:Shared) (Q:Value->Shared->Prop) (E:Value->Shared->Prop),C i j->Q (.int (g i j) s.toks) { s with toks:=s.toks+1 }->wpAny (model X.prog X.w) X.A (f (.int i t) (.int j u)) Q E s) :
  OpR X f (rI C fun i j=>.int (g i j)):=by
 intro pins s σ H x y v u Q I rx ry h
 obtain ⟨i,j,rfl,rfl,hc,q⟩:=h
 obtain ⟨t,rfl⟩:=rx
 obtain ⟨t',rfl⟩:=ry
 exact rule i j t t' s _ _ hc ⟨.int (g i j),H,I.tok _,⟨_,rfl⟩,q⟩
theorem Jp {f:Value->Value->Sem Value} {g:Int->Int->Int}
  (rule:∀ (i j:Int) (t u:Tok) (s:Shared) (Q:Value->Shared->Prop) (E:Value->Shared->Prop),Q (.int (g i j) s.toks) { s with toks:=s.toks+1 }->wpAny (model X.prog X.w) X.A (f (.int i t) (.int j u)) Q E s) :
  OpR X f (rI0 fun i j=>.int (g i j)):=by
 intro pins s σ H x y v u Q I rx ry h
 obtain ⟨i,j,rfl,rfl,q⟩:=h
 obtain ⟨t,rfl⟩:=rx
 obtain ⟨t',rfl⟩:=ry
 exact rule i j t t' s _ _ ⟨.int (g i j),H,I.tok _,⟨_,rfl⟩,q⟩
theorem Ac {f:Value->Value->Sem Value} {g:Int->Int->Bool}
  (rule:∀ (i j:Int) (t u:Tok) (s:Shared) (Q:Value->Shared->Prop) (E:Value->Shared->Prop),Q (.bool (g i j)) s->wpAny (model X.prog X.w) X.A (f (.int i t) (.int j u)) Q E s) :
  OpR X f (rI0 fun i j=>.bl (g i j)):=by
 intro pins s σ H x y v u Q I rx ry h
 obtain ⟨i,j,rfl,rfl,q⟩:=h
 obtain ⟨t,rfl⟩:=rx
 obtain ⟨t',rfl⟩:=ry
 exact rule i j t t' s _ _ ⟨.bl (g i j),H,I,rfl,q⟩
noncomputable def LY (i j:Int):Prop:=0 < j/\j < 1073741824
noncomputable def LZ (i j:Int):Prop:=0<=j/\j<=1000000/\i.natAbs < 2 ^ 64
noncomputable def Jq (i j:Int):Prop:=(-(2 ^ 64) < i/\i < 2 ^ 64)\/(-(2 ^ 64) < j/\j < 2 ^ 64)
theorem Jq.ok {i j:Int} (h:Jq i j):IntMulOk i j:=by
 rcases h with ⟨h1,h2⟩ | ⟨h1,h2⟩
 ·exact .of_left (intBits_le_64 h1 h2)
 ·exact .of_right (intBits_le_64 h1 h2)
theorem EH:OpR X (binaryOp .Add) (rI0 fun i j=>.int (i+j)):=Jp fun _ _ _ _ _ _ _ q=>add_int q
theorem EI:OpR X (binaryOp .Sub) (rI0 fun i j=>.int (i - j)):=Jp fun _ _ _ _ _ _ _ q=>sub_int q
theorem EJ:OpR X (binaryOp .Mult) (rI Jq fun i j=>.int (i * j)):=opI fun _ _ _ _ _ _ _ hc q=>mul_int q hc.ok
theorem Ad:OpR X (binaryOp .FloorDiv) (rI LY fun i j=>.int (i / j)):=opI fun i j _ _ _ _ _ hc q=>by
 have h1:(0:Int) < j:=hc.1
 have h2:j < 1073741824:=hc.2
 exact floordiv_int (by omega) (by rw [Int.fdiv_eq_ediv_of_nonneg i (by omega)];exact q) (.inl (PyProof.noPylong_small (by omega)))
theorem EK:OpR X (binaryOp .Mod) (rI (fun _ j=>0 < j) fun i j=>.int (i % j)):=opI fun i j _ _ _ _ _ hc q=>by
 have h1:(0:Int) < j:=hc
 exact mod_int' (by omega) (by rw [Int.fmod_eq_emod_of_nonneg i (by omega)];exact q)
theorem EL:OpR X (binaryOp .Pow) (rI LZ fun i j=>.int (i ^ j.toNat)):=opI fun _ _ _ _ _ _ _ hc q=>pow_int_small hc.1 hc.2.1 hc.2.2 q
theorem unI {f:Value->Sem Value} {g:Int->Int}
  (rule:∀ (i:Int) (t:Tok) (s:Shared) (Q:Value->Shared->Prop) (E:Value->Shared->Prop),Q (.int (g i) s.toks) { s with toks:=s.toks+1 }->wpAny (model X.prog X.w) X.A (f (.int i t)) Q E s) :
  UnR X f (rU fun i=>.int (g i)):=by
 intro pins s σ H x v Q I rx h
 obtain ⟨i,rfl,q⟩:=h
 obtain ⟨t,rfl⟩:=rx
 exact rule i t s _ _ ⟨.int (g i),H,I.tok _,⟨_,rfl⟩,q⟩
theorem EM:UnR X (unaryOp .USub) (rU fun i=>.int (-i)):=unI fun _ _ _ _ _ q=>neg_int q
end
section
variable {X:Cx} {a b c:Expr} {ta tb tc:TE} {pos:Pos}
theorem wK {pins:List (Addr × Obj)} {σ:St} {H:Hp} {s:Shared} {Q:VK} {k k':Bool} (I:Inv X pins σ H s) (q:Q (.bl k) H) (e:k=k'):EP X pins σ Q (.bool k') s:=by
 subst e
 exact ⟨.bl k,H,I,rfl,q⟩
theorem Jr:OpR X (compareOp .Lt) (rI0 fun i j=>.bl (decide (i < j))):=Ac fun _ _ _ _ _ _ _ q=>lt_int q
theorem Js:OpR X (compareOp .LtE) (rI0 fun i j=>.bl (decide (i<=j))):=Ac fun _ _ _ _ _ _ _ q=>le_int q
theorem Jt:OpR X (compareOp .Gt) (rI0 fun i j=>.bl (decide (j < i))):=Ac fun _ _ _ _ _ _ _ q=>gt_int q
theorem Ju:OpR X (compareOp .GtE) (rI0 fun i j=>.bl (decide (j<=i))):=Ac fun _ _ _ _ _ _ _ q=>ge_int q
theorem EN:OpR X (compareOp .Is) (fun x y H Q=>y = .non/\Q (.bl (decide (x = .non))) H):=by
 intro pins s σ H x y v u Q I rx ry h
 obtain ⟨rfl,q⟩:=h
 cases ry
 refine is_none_gen (wK I q ?_)
 cases x <;> first
  | (cases rx;rfl)
  | (obtain ⟨t,rfl⟩:=rx;rfl)
theorem Ae:OpR X (compareOp .IsNot) (fun x y H Q=>y = .non/\Q (.bl (!decide (x = .non))) H):=by
 intro pins s σ H x y v u Q I rx ry h
 obtain ⟨rfl,q⟩:=h
 cases ry
 refine isnot_none_gen (wK I q ?_)
 cases x <;> first
  | (cases rx;rfl)
  | (obtain ⟨t,rfl⟩:=rx;rfl)
theorem Af {op:CmpOp} {r:R2} (ho:OpR X (compareOp op) r) (ha:PE X a ta) (hb:PE X b tb) (hm:behindInMarks op b=false):PE X (.Compare a [op] [b] pos) (tOp r ta tb):=by
 intro pins s σ H Q I h
 exact wpAny_Compare1 (EG ha hb I h fun v u s2 x y H2 I2 rx ry q=>ho pins s2 σ H2 x y v u Q I2 rx ry q) hm
noncomputable def DG (t:TE):TT:=fun σ H Q=>t σ H fun x H'=>∃ k,x = .bl k/\Q k H'
theorem Ag {op:CmpOp} {r:R2} (ho:OpR X (compareOp op) r) (ha:PE X a ta) (hb:PE X b tb) (hm:behindInMarks op b=false):PT X (.Compare a [op] [b] pos) (DG (tOp r ta tb)):=by
 intro pins s σ H Q I h
 refine wpAny_isTrue_Compare1 (thn (ha pins s σ H _ I h) fun v s1 ⟨x,H1,I1,r1,q1⟩=>thn (hb pins s1 σ H1 _ I1 q1) fun u s2 ⟨y,H2,I2,r2,q2⟩=>
  thn (ho pins s2 σ H2 x y v u _ I2 r1 r2 q2) fun c s3 ⟨z,H3,I3,r3,k,e,q3⟩=>?_) hm
 subst e
 cases r3
 exact wpAny_truthy_bool ⟨H3,I3,q3⟩
noncomputable def qX (r r':R2) (ta tb tc:TE):TE:=fun σ H Q=>ta σ H fun x H1=>tb σ H1 fun y H2=>r x y H2 fun z H3=>∃ k,z = .bl k ∧
 (if k=true then tc σ H3 fun w' H4=>r' y w' H4 Q else Q (.bl false) H3)
theorem wL {op op':CmpOp} {r r':R2} (ho:OpR X (compareOp op) r) (ho':OpR X (compareOp op') r') (ha:PE X a ta) (hb:PE X b tb) (hc:PE X c tc)
  (hm:lastMarks [op,op'] [b,c]=false:=by with_unfolding_all rfl):PE X (.Compare a [op,op'] [b,c] pos) (qX r r' ta tb tc):=by
 intro pins s σ H Q I h
 refine Compare_chain (thn (ha pins s σ H _ I h) fun v s1 ⟨x,H1,I1,r1,q1⟩=>chain_link (thn (hb pins s1 σ H1 _ I1 q1) fun u s2 ⟨y,H2,I2,r2,q2⟩=>
  thn (ho pins s2 σ H2 x y v u _ I2 r1 r2 q2) fun d s3 ⟨z,H3,I3,r3,k,e,q3⟩=>?_)) hm
 subst e
 cases r3
 refine wpAny_truthy_bool ?_
 cases k with
 | false=>exact ite_ff ⟨.bl false,H3,I3,rfl,q3⟩
 | true=>exact ite_tt (chain_last (thn (hc pins s3 σ H3 _ I3 q3) fun w' s4 ⟨z',H4,I4,r4,q4⟩=>ho' pins s4 σ H4 y z' u w' Q I4 r2 r4 q4))
theorem wM {op op':CmpOp} {r r':R2} (ho:OpR X (compareOp op) r) (ho':OpR X (compareOp op') r') (ha:PE X a ta) (hb:PE X b tb) (hc:PE X c tc)
  (hm:lastMarks [op,op'] [b,c]=false:=by with_unfolding_all rfl):PT X (.Compare a [op,op'] [b,c] pos) (DG (qX r r' ta tb tc)):=by
 intro pins s σ H Q I h
 refine isTrue_chain (thn (ha pins s σ H _ I h) fun v s1 ⟨x,H1,I1,r1,q1⟩=>test_link (thn (hb pins s1 σ H1 _ I1 q1) fun u s2 ⟨y,H2,I2,r2,q2⟩=>
  thn (ho pins s2 σ H2 x y v u _ I2 r1 r2 q2) fun d s3 ⟨z,H3,I3,r3,k,e,q3⟩=>?_)) hm
 subst e
 cases r3
 refine wpAny_truthy_bool ?_
 cases k with
 | false=>
  obtain ⟨k',e',q'⟩:=q3
  cases e'
  exact ite_ff ⟨H3,I3,q'⟩
 | true=>
  refine ite_tt (test_last (thn (hc pins s3 σ H3 _ I3 q3) fun w' s4 ⟨z',H4,I4,r4,q4⟩=>thn (ho' pins s4 σ H4 y z' u w' _ I4 r2 r4 q4) fun d' s5 ⟨z2,H5,I5,r5,k2,e2,q5⟩=>?_))
  subst e2
  cases r5
  exact wpAny_truthy_bool ⟨H5,I5,q5⟩
noncomputable def Ah (K:PySem.W.Frag) (x:V) (H:Hp) (k:Bool):Prop:=
 match x with
 | .non=>k=false
 | .bl b=>k=b
 | .int i=>k=(i != 0)
 | .str y=>y.length<=sizeLine/\k=((y.length:Int) != 0)
 | .byt y=>y.size<=sizeLine/\k=((y.size:Int) != 0)
 | .ref p=>(∃ xs,SqL K H p xs/\k = !xs.isEmpty)\/(∃ xs,SqT K H p xs/\k = !xs.isEmpty)\/∃ kvs,H p=some (.dK kvs)/\k = !kvs.isEmpty
 | _=>False
theorem qY {κ:Type} {kvs:List (κ × V)} {vs:List (κ × Value)} (r:KV kvs vs):(!vs.isEmpty) = !kvs.isEmpty:=by
 cases r <;> rfl
theorem kh {xs:List V} {its:List Value} (r:aM xs its):(!its.toArray.isEmpty) = !xs.isEmpty:=by
 cases r <;> simp
theorem iY:(sizeLine:Nat) < 2 ^ 63:=by rw [sizeLine_eq];decide
theorem EO:LX X (fun x H Q=>∃ k,Ah X.K x H k/\Q k H):=by
 intro pins s σ H x v Q I rx h
 obtain ⟨k,e,q⟩:=h
 have hl:=iY
 have hs:sizeLine=16777216:=sizeLine_eq
 cases x with
 | non=>
  cases rx
  have e':k=false:=e
  subst e'
  exact truthy_none ⟨H,I,q⟩
 | bl b=>
  cases rx
  have e':k=b:=e
  subst e'
  exact wpAny_truthy_bool ⟨H,I,q⟩
 | int i=>
  obtain ⟨t,rfl⟩:=rx
  have e':k=(i != 0):=e
  subst e'
  exact PySem.P.truthy_int ⟨H,I,q⟩
 | str y=>
  obtain ⟨t,rfl⟩:=rx
  obtain ⟨hy,e'⟩:y.length<=sizeLine/\k=((y.length:Int) != 0):=e
  subst e'
  exact PySem.P.truthy_str (by omega) ⟨H,I.tok _,q⟩
 | byt y=>
  obtain ⟨t,rfl⟩:=rx
  obtain ⟨hy,e'⟩:y.size<=sizeLine/\k=((y.size:Int) != 0):=e
  subst e'
  exact PySem.W.truthy_bytes (by omega) ⟨H,I.tok _,q⟩
 | ref p=>
  cases rx
  have e':(∃ xs,SqL X.K H p xs/\k = !xs.isEmpty)\/(∃ xs,SqT X.K H p xs/\k = !xs.isEmpty)\/∃ kvs,H p=some (.dK kvs)/\k = !kvs.isEmpty:=e
  rcases e' with ⟨xs,hx,e'⟩ | ⟨xs,hx,e'⟩ | ⟨kvs,hx,e'⟩
  ·subst e'
   obtain ⟨its,r,pl,hz⟩:=I.list hx
   have hlen:=r.length
   exact wpAny_truthy_list pl.isList (by simp only [List.size_toArray];omega) ⟨H,I.tok _,by rw [kh r];exact q⟩
  ·subst e'
   obtain ⟨its,r,pl,hz⟩:=I.tuple hx
   have hlen:=r.length
   exact truthy_tuple pl (by simp only [List.size_toArray];omega) ⟨H,I.tok _,by rw [kh r];exact q⟩
  ·subst e'
   obtain ⟨hz,hS,vs,r,m⟩:kvs.length<=sizeLine/\(p == sysModules)=false/\∃ vs,KV kvs vs/\s.heap.DictOf (nD X.prog X.w) p vs:=I.hok p _ hx
   have hlen:kvs.length=vs.length:=Paired.length r
   exact wpAny_truthy_dict hS m (by omega) ⟨H,I.tok _,by rw [qY r];exact q⟩
 | _=>exact (show False from e).elim
theorem wN (ha:PE X a ta) (he:∀ whole,isTrue a X.env whole=(do let v <-whole;standAt a.pos;holding [v] (truthy v))) :
  PT X a (fun σ H Q=>ta σ H fun x H'=>∃ k,Ah X.K x H' k/\Q k H'):=by
 intro pins s σ H Q I h
 exact isTrue_plain (thn (ha pins s σ H _ I h) fun v s1 ⟨x,H1,I1,r1,q1⟩=>EO pins s1 σ H1 x v Q I1 r1 q1) (he _)
theorem qZ:OpR X (binaryOp .Add) (fun x y H Q=>∃ i j,x = .str i/\y = .str j/\i.length+j.length<=sizeLine/\Q (.str (i++j)) H):=by
 intro pins s σ H x y v u Q I rx ry h
 obtain ⟨i,j,rfl,rfl,hz,q⟩:=h
 obtain ⟨t,rfl⟩:=rx
 obtain ⟨t',rfl⟩:=ry
 exact add_str (fun t' tk=>⟨.str (i++j),H,I.tok _,⟨_,rfl⟩,q⟩) hz
theorem cW {x:V} {us:List Value} (r:aM [x] us):∃ u,us=[u]/\aK x u:=by
 cases r with
 | cons r1 r2=>cases r2;exact ⟨_,rfl,r1⟩
theorem sX {x y:V} {us:List Value} (r:aM [x,y] us):∃ u w',us=[u,w']/\aK x u/\aK y w':=by
 cases r with
 | cons r1 r2=>
  cases r2 with
  | cons r3 r4=>cases r4;exact ⟨_,_,rfl,r1,r3⟩
theorem uH (hc:X.calm=true):aZ X (.builtin "max") (fun xs H Q=>∃ i j,xs=[.int i,.int j]/\Q (.int (if j > i then j else i)) H):=by
 intro pins s σ H xs us Q I r h
 obtain ⟨i,j,rfl,q⟩:=h
 obtain ⟨u,w',rfl,⟨t,rfl⟩,⟨t',rfl⟩⟩:=sX r
 refine max_two_ints (I.ok.hd hc) fun h' tk k=>⟨_,H,I.kept k,?_,q⟩
 by_cases hj:j > i
 ·rw [if_pos hj,if_pos hj];exact ⟨_,rfl⟩
 ·rw [if_neg hj,if_neg hj];exact ⟨_,rfl⟩
theorem uI (hc:X.calm=true):aZ X (.builtin "min") (fun xs H Q=>∃ i j,xs=[.int i,.int j]/\Q (.int (if j < i then j else i)) H):=by
 intro pins s σ H xs us Q I r h
 obtain ⟨i,j,rfl,q⟩:=h
 obtain ⟨u,w',rfl,⟨t,rfl⟩,⟨t',rfl⟩⟩:=sX r
 refine min_two_ints (I.ok.hd hc) fun h' tk k=>⟨_,H,I.kept k,?_,q⟩
 by_cases hj:j < i
 ·rw [if_pos hj,if_pos hj];exact ⟨_,rfl⟩
 ·rw [if_neg hj,if_neg hj];exact ⟨_,rfl⟩
end
end L2
namespace L2
open PySem PySem.Spec PyProof.Rows
structure ObjM (h:Heap) (x dx C:Addr) (mA:Str->Option Value):Prop where
 obj:h.get? x=some (PySem.W.instObj C dx)
 ns:h.Ns1 dx mA
 ne:dx ≠ x
theorem uJ {h:Heap} {dx:Addr} {mA:Str->Option Value} (n:h.Ns1 dx mA):∃ od,h.get? dx=some od/\∀ name,PySem.W.lookIn name od=some (mA name):=by
 obtain ⟨o,es,ep,ho,hd,hk,_,hm⟩:=n
 refine ⟨o,ho,fun name=>?_⟩
 have e:=hm name
 unfold nsFind findBy at e
 rw [<-Array.find?_toList] at e
 unfold PySem.W.lookIn
 rw [hd]
 dsimp only
 split
 ·rename_i y q
  rw [q] at e
  exact congrArg some e
 ·rename_i q
  rw [q] at e
  have a:es.toList.any (·.refKey)=false:=by
   rw [List.any_eq_false]
   intro y hy
   obtain ⟨z,t,hkey⟩:=hk y (Array.mem_toList_iff.mp hy)
   simp [DictEntry.refKey,hkey]
  have a':¬ es.toList.any (·.refKey)=true:=by rw [a];exact Bool.false_ne_true
  rw [if_neg a']
  exact congrArg some e
theorem ObjM.look {h:Heap} {x dx C:Addr} {mA:Str->Option Value} (I:ObjM h x dx C mA):∃ od,PySem.W.InstAt h x (PySem.W.instObj C dx) C (some od)/\∀ name,PySem.W.lookIn name od=some (mA name):=
 let ⟨od,ho,hl⟩:=uJ I.ns
 ⟨od,⟨I.obj,rfl,rfl,ho⟩,hl⟩
section
variable {P:Program} {w:World} {H H':Hp} {h h':Heap} {a C dx:Addr} {fs fs':List (Str × V)}
theorem Ai (hok:HOk P w H h) (e:H a=some (.ins C dx fs)):∃ mA,ObjM h a dx C mA/\(∀ f,En (fs.lookup f) (mA f))/\PySem.Within mA (fs.map (·.1))/\fs.length<=1000/\H dx=some (.own a):=by
 obtain ⟨d,z,ne,ob,mA,n,r,q⟩:=(show bL P w H h a (.ins C dx fs) from hok a _ e)
 exact ⟨mA,⟨ob,n,ne⟩,r,q,z,d⟩
end
structure Cls (K:PySem.W.Frag) (C:Addr):Prop where
 pg:PySem.W.plainGet K C Str.empty=true
 hd:PySem.W.hasDictIn K C=true
 po:PySem.W.plainOver K C=true
 sa:PySem.W.findIn K (.ref C) "__setattr__" = some (some (.builtin "object.__setattr__"))
theorem Cls.get {K:PySem.W.Frag} {C:Addr} (c:Cls K C) (f:Str):PySem.W.plainGet K C f=true:=c.pg
section
variable {X:Cx} {pins:List (Addr × Obj)} {σ:St} {H:Hp} {s:Shared} {A:Around} {E:Value->Shared->Prop} {Q:Value->Shared->Prop} {c:Value} {b:Bool}
inductive TyOf (K:PySem.W.Frag) (H:Hp):V->Value->Prop where
 | non:TyOf K H .non (.type "NoneType")
 | bl (x:Bool):TyOf K H (.bl x) (.type "bool")
 | int (i:Int):TyOf K H (.int i) (.type "int")
 | str (x:Str):TyOf K H (.str x) (.type "str")
 | flt (x:UInt64):TyOf K H (.flt x) (.type "float")
 | lst {a:Addr} {xs:List V} (e:H a=some (.lst xs)):TyOf K H (.ref a) (.type "list")
 | frz {a:Addr} {o:Obj} {xs:List V} (e:H a=some (.frz o (.lst xs))):TyOf K H (.ref a) (.type "list")
 | tup {a:Addr} {xs:List V} (e:H a=some (.tup xs)):TyOf K H (.ref a) (.type "tuple")
 | dK {a:Addr} {kvs:List (Key × V)} (e:H a=some (.dK kvs)):TyOf K H (.ref a) (.type "dict")
 | dT {a:Addr} {kvs:List (List Key × V)} (e:H a=some (.dT kvs)):TyOf K H (.ref a) (.type "dict")
 | ins {a C dx:Addr} {fs:List (Str × V)} (e:H a=some (.ins C dx fs)) (cl:Cls K C) (ha:PySem.W.findIn K (.ref C) "__class__" = some (some (.builtin "object.__class__")))
   (hn:PySem.W.specialIn K (.builtin "object.__class__") "__get__" = some (some (.builtin "getset_descriptor.__get__"))) (htk:PySem.W.takesIn K (.builtin "object.__class__")=some true)
   (hm:PySem.W.mroIn K C (.type "object")=some true):TyOf K H (.ref a) (.ref C)
theorem uK {x:V} {u t:Value} (I:Inv X pins σ H s) (rx:aK x u) (ty:TyOf X.K H x t) (e:PySem.W.kitOne X.K t c=some b) (h:∀ tk,Q (.bool b) { s with toks:=tk }) :
  wpAny (model X.prog X.w) A (call (.builtin "isinstance") [u,c]) Q E s:=by
 cases ty with
 | non=>cases (show u=Value.none from rx);exact PySem.W.kia_one PySem.W.kitx_none I.kIn True.intro e (fun z=>nomatch z) h
 | bl y=>cases (show u=Value.bool y from rx);exact PySem.W.kia_one PySem.W.kitx_bool I.kIn True.intro e (fun z=>nomatch z) h
 | int i=>obtain ⟨t,q⟩:=(show ∃ t,u=Value.int i t from rx);cases q;exact PySem.W.kia_one PySem.W.kitx_int I.kIn True.intro e (fun z=>nomatch z) h
 | str y=>obtain ⟨t,q⟩:=(show ∃ t,u=Value.str y t from rx);cases q;exact PySem.W.kia_one PySem.W.kitx_str I.kIn True.intro e (fun z=>nomatch z) h
 | flt y=>obtain ⟨t,q⟩:=(show ∃ t,u=Value.float y t from rx);cases q;exact PySem.W.kia_one PySem.W.kitx_float I.kIn True.intro e (fun z=>nomatch z) h
 | @lst a xs ea=>
  cases (show u=Value.ref a from rx)
  obtain ⟨_,_,n,_,h1⟩:=(show bL X.prog X.w H s.heap a (.lst xs) from I.hok a _ ea)
  exact PySem.W.kia_one PySem.W.kitx_list I.kIn ⟨_,h1,rfl⟩ e (fun z=>nomatch z) h
 | @frz a ob xs ea=>
  cases (show u=Value.ref a from rx)
  obtain ⟨_,_,_,n,_,h1⟩:=(show bL X.prog X.w H s.heap a (.frz ob (.lst xs)) from I.hok a _ ea)
  exact PySem.W.kia_one PySem.W.kitx_list I.kIn ⟨_,h1,rfl⟩ e (fun z=>nomatch z) h
 | @tup a xs ea=>
  cases (show u=Value.ref a from rx)
  obtain ⟨_,_,_,p⟩:=(show bL X.prog X.w H s.heap a (.tup xs) from I.hok a _ ea)
  obtain ⟨o,h1,h2,_⟩:=p
  exact PySem.W.kia_one PySem.W.kitx_tuple I.kIn ⟨o,h1,h2⟩ e (fun z=>nomatch z) h
 | @dK a kvs ea=>
  cases (show u=Value.ref a from rx)
  obtain ⟨_,_,vs,_,p⟩:=(show bL X.prog X.w H s.heap a (.dK kvs) from I.hok a _ ea)
  obtain ⟨o,es,ep,h1,h2,_⟩:=p
  exact PySem.W.kia_one PySem.W.kitx_dict I.kIn ⟨o,h1,h2.1⟩ e (fun z=>nomatch z) h
 | @dT a kvs ea=>
  cases (show u=Value.ref a from rx)
  obtain ⟨_,_,xs,_,o,es,ep,h1,h2,_⟩:=(show bL X.prog X.w H s.heap a (.dT kvs) from I.hok a _ ea)
  exact PySem.W.kia_one PySem.W.kitx_dict I.kIn ⟨o,h1,h2.1⟩ e (fun z=>nomatch z) h
 | @ins a C dx fs ea cl ha hn htk hm=>
  cases (show u=Value.ref a from rx)
  obtain ⟨mA,O,_⟩:=Ai I.hok ea
  obtain ⟨od,J,_⟩:=O.look
  exact PySem.W.kia_one (PySem.W.kitx_own (cl.get _) cl.hd ha hn htk hm) I.kIn J e (fun z=>nomatch z) h
end
end L2
namespace L2
open PySem PySem.Spec PyProof.Rows
structure Room (k:Nat) (A:Around):Prop where
 hd:A.handled=none
 dp:A.depth+3 * k+5 < recursionLimit
 un:A.units+16 * k+200 < cLine
 gd:A.guards=some []
theorem Room.deeper {k:Nat} {A:Around} (r:Room (k+1) A) (env:Env):Room k (A.deeper env):=
 ⟨r.hd,by have:=r.dp;show A.depth+1+3 * k+5 < _;omega,by have:=r.un;show A.units+3+16 * k+200 < _;omega,r.gd⟩
theorem Room.depth {k:Nat} {A:Around} (r:Room k A):A.depth < recursionLimit:=by have:=r.dp;omega
theorem Room.units {k:Nat} {A:Around} (r:Room k A):A.units+64 < cLine:=by have:=r.un;omega
noncomputable def jP:TA:=fun _ H Q=>Q [] H
noncomputable def cB (ta:TE) (tr:TA):TA:=fun σ H Q=>ta σ H fun x H1=>tr σ H1 fun xs H2=>Q (x::xs) H2
section
variable {X:Cx} {e:Expr} {es:List Expr} {te:TE} {t:TA} {pos:Pos}
theorem wP:PA X [] jP:=fun _ _ _ _ H Q I h=>Calls.spliced_nil ⟨[],H,I,.nil,h⟩
theorem Aj (ha:PE X e te) (hr:PA X es t) (hs:starEach (e::es) X.env=(false,eval e X.env)::starEach es X.env:=by rfl):PA X (e::es) (cB te t):=by
 intro pos pins s σ H Q I h
 rw [hs]
 show wpAny _ _ (spliced ((false,eval e X.env)::backTo pos (starEach es X.env))) _ _ s
 refine Calls.spliced_cons (thn (ha pins s σ H _ I h) fun u s1 ⟨x,H1,I1,r1,q1⟩=>?_)
 exact thn (hr pos pins s1 σ H1 _ I1 q1) fun us s2 ⟨xs,H2,I2,r2,q2⟩=>⟨x::xs,H2,I2,.cons r1 r2,q2⟩
noncomputable def Jv (t:TA):TE:=fun σ H Q=>t σ H fun xs H1=>xs.length<=sizeLine/\∀ p,H1 p=none->Q (.ref p) (upd H1 p (.tup xs))
noncomputable def Jw (t:TA):TE:=fun σ H Q=>t σ H fun xs H1=>xs.length<=sizeLine/\∀ p,H1 p=none->Q (.ref p) (upd H1 p (.lst xs))
theorem ER {x1} (h:PA X es t):PE X (.Tuple es x1 pos) (Jv t):=by
 intro pins s σ H Q I hq
 refine wpAny_Tuple_spliced (thn (h pos pins s σ H _ I hq) fun us s1 ⟨xs,H1,I1,r,z,q⟩=>⟨by rw [<-r.length];exact z,?_⟩)
 have hf:H1 s1.heap.objs.size=none:=I1.hok.fresh (Nat.le_refl _)
 refine ⟨.ref s1.heap.objs.size,upd H1 s1.heap.objs.size (.tup xs),I1.laid (t':=s1.toks) (fun b u e=>Heap.get?_push_of_some _ e) (Nat.le_refl _) ?_,rfl,q _ hf⟩
 exact ⟨z,us,r,nF.new _ _⟩
theorem ES (h:PA X es t):PE X (.List es pos) (Jw t):=by
 intro pins s σ H Q I hq
 refine wpAny_List_spliced (thn (h pos pins s σ H _ I hq) fun us s1 ⟨xs,H1,I1,r,z,q⟩=>⟨by rw [<-r.length];exact z,?_⟩)
 have hf:H1 s1.heap.objs.size=none:=I1.hok.fresh (Nat.le_refl _)
 refine ⟨.ref s1.heap.objs.size,upd H1 s1.heap.objs.size (.lst xs),I1.laid (t':=s1.toks) (fun b u e=>Heap.get?_push_of_some _ e) (Nat.le_refl _) ?_,rfl,q _ hf⟩
 exact ⟨z,us,0,r,Heap.get?_push_size _ rfl⟩
end
noncomputable abbrev Sp:=List V->Hp->VK->XK->Prop
noncomputable abbrev CXT:=List Env->Hp->Shared->XK->Value->Shared->Prop
structure Env0 (P:Program) (w:World) (K:PySem.W.Frag) (mg:Str->Option Value) (base:Heap) (A:Around) (outer:List Env) (s:Shared) (H:Hp):Prop where
 frames:A.frames=some outer
 mod:Mod K mg base
 bs:∀ b o,base.get? b=some o->s.heap.get? b=some o/\H b=none
 bsz:base.objs.size<=s.heap.objs.size
 funs:s.heap.FunFrames base outer
 frf:∀ b ∈ frs outer,H b=none
 hok:HOk P w H s.heap
 bare:AllBare s.gens
noncomputable def CE (outer:List Env) (P:Program) (w:World) (H:Hp) (s:Shared) (Q:VK) (u:Value) (s':Shared):Prop:=
 ∃ v H',s'.os=s.os/\AllBare s'.gens/\Un (frs outer) [] H H' s.heap s'.heap/\HOk P w H' s'.heap/\aK v u/\Q v H'
noncomputable def CR (CX:CXT) (outer:List Env) (P:Program) (w:World) (H:Hp) (s:Shared) (Q:VK) (E:XK) (r:Result) (s':Shared):Prop:=
 match r with
 | .ok (.ret u)=>CE outer P w H s Q u s'
 | .ok _=>False
 | .error e=>CX outer H s E e s'
structure FnOk (P:Program) (w:World) (K:PySem.W.Frag) (mg:Str->Option Value) (base:Heap) (CX:CXT) (k:Nat) (f:Addr) (fd:FuncData) (ps:List Str) (sp:Sp):Prop where
 len:∀ vs H Q E,sp vs H Q E->vs.length=ps.length
 run:∀ (A:Around) (outer:List Env) (s:Shared) (H:Hp) (args:Args) (us:List Value) (vs:List V) (Q:VK) (E:XK),Room k A->Env0 P w K mg base A outer s H->BindsTo s fd args (ps.zip us)->aM vs us->sp vs H Q E ->
  codeAny (model P w) A (.call (.ref f) args) (CR CX outer P w H s Q E) s
section
variable {X:Cx} {pins:List (Addr × Obj)} {σ:St} {H:Hp} {s s':Shared}
theorem Inv.env0 (I:Inv X pins σ H s):Env0 X.prog X.w X.K X.mg X.base X.A X.stack s H:=
 ⟨I.ok.frames,I.ok.mod,I.bs,Nat.le_trans I.ok.bsz I.sz,I.stack,I.stkFree,I.hok,I.bare⟩
theorem Inv.after {Q:VK} {u:Value} (I:Inv X pins σ H s) (h:CE X.stack X.prog X.w H s Q u s'):EP X pins σ Q u s':=by
 obtain ⟨v,H',os,bare,un,hok,r,q⟩:=h
 obtain ⟨hh,g,d,t,os'⟩:=s'
 obtain rfl:os'=s.os:=os
 exact ⟨v,H',I.call (h':=hh) (g':=g) (d':=d) (t':=t) (ch:=[]) un hok bare (fun b z=>absurd z (by simp)),r,q⟩
end
noncomputable def DH (sp:Sp) (dvs:List V) (E:XK) (t:TA):TE:=fun σ H Q=>t σ H fun vs H1=>sp (vs++dvs) H1 Q E
noncomputable def mB (K:PySem.W.Frag) (fd:FuncData) (ps:List Str) (ds:List Value):Prop:=
 ∀ (s:Shared) (us:List Value),K.In s.heap->(us++ds).length=ps.length->BindsTo s fd ⟨us,[]⟩ (ps.zip (us++ds))
theorem mB.all {K:PySem.W.Frag} {fd:FuncData} {ps:List Str} (h:∀ us:List Value,us.length=ps.length->bindArgs fd ⟨us,[]⟩=pure (ps.zip us)):mB K fd ps []:=fun s us _ hl=>by
 rw [List.append_nil] at hl ⊢
 exact .of_eq (h us hl)
noncomputable def q8 (CX:CXT) (X:Cx) (E:XK):Prop:=∀ (pins:List (Addr × Obj)) (σ:St) (H:Hp) (s:Shared) (e:Value) (s':Shared),Inv X pins σ H s->CX X.stack H s E e s'->X.xe e s'
section
variable {X:Cx} {CX:CXT} {k:Nat} {f C:Addr} {fd:FuncData} {ps:List Str} {sp:Sp} {dvs:List V} {ds:List Value} {E:XK} {x m:Str} {p pos apos:Pos} {e o:Expr} {es:List Expr} {ta:TE} {t:TA}
theorem ET {pins:List (Addr × Obj)} {σ:St} {H:Hp} {s:Shared} {Q:VK} {us:List Value} {vs:List V} (F:FnOk X.prog X.w X.K X.mg X.base CX k f fd ps sp) (hr:Room k X.A) (hb:mB X.K fd ps ds) (hd:aM dvs ds) (hx:q8 CX X E)
  (I:Inv X pins σ H s) (r:aM vs us) (h:sp (vs++dvs) H Q E):wpAny (model X.prog X.w) X.A (call (.ref f) us) (EP X pins σ Q) X.xe s:=by
 have r2:aM (vs++dvs) (us++ds):=r.append hd
 have hl:(us++ds).length=ps.length:=by rw [<-r2.length];exact F.len _ _ _ _ h
 refine wpAny_call (codeAny_mono (F.run X.A X.stack s H ⟨us,[]⟩ (us++ds) (vs++dvs) Q E hr I.env0 (hb s us I.kIn hl) r2 h) fun r s' hq=>?_)
 cases r with
 | error e=>exact hx pins σ H s e s' I hq
 | ok fl=>
  cases fl with
  | ret u=>exact I.after hq
  | next=>exact False.elim hq
  | brk=>exact False.elim hq
  | cont=>exact False.elim hq
theorem Ak (F:FnOk X.prog X.w X.K X.mg X.base CX k f fd ps sp) (hr:Room k X.A) (hg:Gl X x) (hm:X.mg x=some (.ref f)) (hk:PySem.W.keepIn X.K (.ref f)=true) (hb:mB X.K fd ps ds) (hd:aM dvs ds) (hx:q8 CX X E)
  (ha:PA X (e::es) t) (hdb:(x == ("__debug__" : Str))=false:=by decide) (he:starEach (e::es) X.env=(false,eval e X.env)::starEach es X.env:=by rfl) (hpl:(backTo pos (starEach es X.env)).any (·.1)=false:=by rfl) :
  PE X (.Call (.Name x p) (e::es) [] pos) (DH sp dvs E t):=by
 intro pins s σ H Q I h
 refine wpAny_Call_Name_kw (sV I hg hm ?_ hdb)
 refine PySem.W.callWith_K (h₀:=X.base) I.ok.mod.kin hk (thn (ha pos pins s σ H _ I h) fun us s1 ⟨vs,H1,I1,r,q⟩=>⟨I1.kIn,?_⟩) he hpl
 exact ET F hr hb hd hx I1 r q
end
noncomputable def PK (X:Cx) (kws:List Keyword) (t:TA):Prop:=
 ∀ (pos:Pos) (pins:List (Addr × Obj)) (s:Shared) (σ:St) (H:Hp) (Q:List V->Hp->Prop),Inv X pins σ H s->t σ H Q->wpAny (model X.prog X.w) X.A (evalAll ((backToKw pos (keywordEach kws X.env)).map (·.2))) (AP X pins σ Q) X.xe s
section
variable {X:Cx} {CX:CXT} {k:Nat} {f C:Addr} {fd:FuncData} {ps ks:List Str} {sp:Sp} {E:XK} {x m:Str} {p pos apos kpos:Pos} {e o:Expr} {es:List Expr} {kws:List Keyword} {te ta:TE} {t tk:TA} {nm:Option Str}
theorem EU:PK X [] jP:=fun _ _ _ _ H Q I h=>wpAny_evalAll_nil ⟨[],H,I,.nil,h⟩
theorem Al (ha:PE X e te) (hr:PK X kws t):PK X (⟨nm,e,kpos⟩::kws) (cB te t):=by
 intro pos pins s σ H Q I h
 show wpAny _ _ (evalAll ((do let v <-eval e X.env;standAt pos;pure v)::(backToKw pos (keywordEach kws X.env)).map (·.2))) _ _ s
 refine wpAny_evalAll_cons (wpAny_bind (thn (ha pins s σ H _ I h) fun u s1 ⟨x,H1,I1,r1,q1⟩=>wpAny_bind (wpAny_standAt (wpAny_pure ?_))))
 exact thn (hr pos pins s1 σ H1 _ I1 q1) fun us s2 ⟨xs,H2,I2,r2,q2⟩=>⟨x::xs,H2,I2,.cons r1 r2,q2⟩
variable {g:List Value->List Value->List Value} {gV:List V->List V->List V}
end
structure FnScope (N P:List Str) (sc:Scope):Prop where
 kind:sc.kind = .function
 co:sc.isCoroutine=false
 gen:sc.isGenerator=false
 nd:N.Nodup
 pre:N.take P.length=P
 par:∀ x ∈ P,sc.names.lookup x=some .local\/sc.names.lookup x=some .cell
 nofree:∀ y ∈ sc.names,y.2 ≠ .free
theorem mD {kindOf:Str->Option NameKind} {x:Str}:∀ {binds:List (Str × Value)} {m:Str->Option Value},(∀ v,(x,v) ∉ binds)->bindL kindOf binds m x=m x
 | [],_,_=>rfl
 | (n,v)::r,m,h=>by
  unfold bindL
  rw [mD fun w hw=>h w (List.mem_cons_of_mem _ hw)]
  split
  ·have:x ≠ n:=by rintro rfl;exact h v List.mem_cons_self
   simp [this]
  ·rfl
theorem mE {kindOf:Str->Option NameKind} {x:Str}:∀ {binds:List (Str × Value)} {m:Str->Option Value},(∀ v,(x,v) ∉ binds)->bindC kindOf binds m x=m x
 | [],_,_=>rfl
 | (n,v)::r,m,h=>by
  unfold bindC
  rw [mE fun w hw=>h w (List.mem_cons_of_mem _ hw)]
  split
  ·rfl
  ·have:x ≠ n:=by rintro rfl;exact h v List.mem_cons_self
   simp [this]
theorem mF {kindOf:Str->Option NameKind} {x:Str} {v:Value}:∀ {P:List Str} {vs:List Value} {i:Nat} {m:Str->Option Value},P.Nodup->P[i]?=some x->vs[i]?=some v->kindOf x=some .local ->
  bindL kindOf (P.zip vs) m x=some v
 | [],_,_,_,_,h,_,_=>by simp at h
 | _::_,[],_,_,_,_,h,_=>by simp at h
 | p::P,w::vs,0,m,nd,h1,h2,hk=>by
  simp at h1 h2;subst h1;subst h2
  show bindL kindOf ((p,w)::P.zip vs) m p=_
  unfold bindL
  rw [mD fun v hv=>(List.nodup_cons.mp nd).1 (List.of_mem_zip hv).1,if_pos hk]
  simp
 | p::P,w::vs,i+1,m,nd,h1,h2,hk=>by
  show bindL kindOf ((p,w)::P.zip vs) m x=_
  unfold bindL
  exact mF (i:=i) (List.nodup_cons.mp nd).2 (by simpa using h1) (by simpa using h2) hk
theorem mG {kindOf:Str->Option NameKind} {x:Str} {v:Value}:∀ {P:List Str} {vs:List Value} {i:Nat} {m:Str->Option Value},P.Nodup->P[i]?=some x->vs[i]?=some v->kindOf x ≠ some .local ->
  bindC kindOf (P.zip vs) m x=some v
 | [],_,_,_,_,h,_,_=>by simp at h
 | _::_,[],_,_,_,_,h,_=>by simp at h
 | p::P,w::vs,0,m,nd,h1,h2,hk=>by
  simp at h1 h2;subst h1;subst h2
  show bindC kindOf ((p,w)::P.zip vs) m p=_
  unfold bindC
  rw [mE fun v hv=>(List.nodup_cons.mp nd).1 (List.of_mem_zip hv).1,if_neg hk]
  simp
 | p::P,w::vs,i+1,m,nd,h1,h2,hk=>by
  show bindC kindOf ((p,w)::P.zip vs) m x=_
  unfold bindC
  exact mG (i:=i) (List.nodup_cons.mp nd).2 (by simpa using h1) (by simpa using h2) hk
noncomputable def gF (N:List Str) (vs:List V):St:=vs.map some++List.replicate (N.length - vs.length) none
noncomputable def rb (CX:CXT) (P:Program) (w:World) (K:PySem.W.Frag) (mg:Str->Option Value) (base:Heap) (N:List Str) (qual:Str) (scope:Scope) (f:Addr) (cd:Value) (A:Around) (outer:List Env) (s:Shared) (H:Hp) (E:XK):Cx where
 prog:=P
 w:=w
 K:=K
 mg:=mg
 base:=base
 A:=A.deeper (envOfC qual scope s.heap.objs.size f cd)
 N:=N
 s₀:=s
 H₀:=H
 env:=envOfC qual scope s.heap.objs.size f cd
 outer:=outer
 stack:=envOfC qual scope s.heap.objs.size f cd::outer
 ex:=[]
 calm:=true
 fn:=fun _=>true
 pn:=[]
 xe:=fun e s'=>wpAny (model P w) (A.deeper (envOfC qual scope s.heap.objs.size f cd)) (leaving (envOfC qual scope s.heap.objs.size f cd) e) (fun _ s''=>CX outer H s E e s'') (fun e' s''=>CX outer H s E e' s'') s'
theorem pE {sc:Scope} {n:Nat} {x:Str} (h:sc.names.lookup x=some .cell):∃ c,(cellsFrom n sc.names []).lookup x=some c:=by
 have q:=PySem.W.cellsFrom_some sc.names n [] (.inl h)
 exact Option.isSome_iff_exists.mp q
theorem uL {CX:CXT} {P:Program} {w:World} {K:PySem.W.Frag} {mg:Str->Option Value} {base:Heap} {N ps:List Str} {qual:Str} {scope:Scope} {f:Addr} {cd:Value} {A:Around} {outer:List Env} {s s1:Shared} {H:Hp} {E:XK} {us:List Value} {vs:List V}
  (S:FnScope N ps scope) (hd:A.handled=none) (e0:Env0 P w K mg base A outer s H) (hl:vs.length=ps.length) (r:aM vs us)
  (x:InCallC s s.heap.objs.size (bindL (envOfC qual scope s.heap.objs.size f cd).kindOf (ps.zip us) fun _=>none) (cellsFrom (s.heap.objs.size+1) scope.names []) (bindC (envOfC qual scope s.heap.objs.size f cd).kindOf (ps.zip us) fun _=>none) s1) :
  Inv (rb CX P w K mg base N qual scope f cd A outer s H E) [] (gF N vs) H s1:=by
 have hpl:ps.length<=N.length:=by have:=congrArg List.length S.pre;rw [List.length_take] at this;omega
 obtain ⟨h1,tk,rfl,hk⟩:=x.done
 have noA:∀ b:Addr,b ∉ (rb CX P w K mg base N qual scope f cd A outer s H E).ex:=fun b z=>absurd (show b ∈ ([]:List Addr) from z) (by simp)
 refine ⟨⟨e0.mod,S.kind,rfl,rfl,Nat.le_refl _,fun y z c h1 h2=>?_,fun y hy=>?_,fun y c _ h=>?_,fun _=>hd,Around.frames_deeper e0.frames,.inr ⟨rfl,rfl⟩,fun b z=>absurd z (noA b),e0.bs,e0.bsz,fun b _ _=>noA b,fun b z=>absurd z (noA b),e0.funs,e0.frf⟩,
  rfl,e0.bare,Un.kept hk,⟨_,x.toInCall.ns,fun i y v h1 h2 h3=>?_⟩,fun y c h=>⟨_,x.cell y c h⟩,e0.hok.fresh (Nat.le_refl _),fun y c h=>?_,fun p hp=>absurd (show p ∈ ([]:List (Addr × Obj)) from hp) (by simp),e0.hok.kept hk,?_⟩
 ·exact name_of_addr x.apart (PySem.mem_of_lookup h1) (PySem.mem_of_lookup h2)
 ·have hy:scope.names.lookup y=some .cell\/scope.names.lookup y=some .free:=hy
  rcases hy with hy | hy
  ·exact pE hy
  ·exact absurd rfl (S.nofree _ (PySem.mem_of_lookup hy))
 ·exact Nat.le_of_lt (x.above y c (PySem.mem_of_lookup h))
 ·have hi:i < vs.length:=by
   unfold gF at h2
   by_cases hi:i < vs.length
   ·exact hi
   ·rw [List.getElem?_append_right (by simpa using hi)] at h2
    rw [List.getElem?_replicate] at h2
    split at h2 <;> cases h2
  have ha:vs[i]?=some v:=by
   unfold gF at h2
   rw [List.getElem?_append_left (by simpa using hi),List.getElem?_map] at h2
   cases e:vs[i]? with
   | none=>rw [e] at h2;cases h2
   | some a=>rw [e] at h2;cases h2;rfl
  obtain ⟨u,hu,rv⟩:=r.get ha
  have hp:ps[i]?=some y:=by
   rw [<-S.pre,List.getElem?_take_of_lt (by omega)];exact h1
  have ndP:ps.Nodup:=by rw [<-S.pre];exact S.nd.sublist (List.take_sublist _ _)
  refine ⟨u,rv,?_⟩
  rcases S.par y (List.mem_of_getElem? hp) with k | k
  ·exact .inl ⟨k,mF ndP hp hu k⟩
  ·obtain ⟨c,e⟩:=pE (n:=s.heap.objs.size+1) k
   refine .inr ⟨.inl k,c,e,?_⟩
   have q:=x.cell y c e
   rw [mG ndP hp hu (by show scope.names.lookup y ≠ _;rw [k];decide)] at q
   exact q
 ·exact e0.hok.fresh (Nat.le_of_lt (x.above y c (PySem.mem_of_lookup h)))
 ·unfold gF
  show _=N.length
  rw [List.length_append,List.length_map,List.length_replicate]
  omega
theorem Jx {CX:CXT} {P:Program} {w:World} {K:PySem.W.Frag} {mg:Str->Option Value} {base:Heap} {k:Nat} {f:Addr} {name qual:Str} {params:Arguments} {body:List Stmt} {scope:Scope} {dV kV doc pm cdv ct oc:Value} {an od:Option Addr}
  {osl:Array (Option Value)} {N ps:List Str} {sp:Sp} (lk:K.lookup f=some ⟨oc,od,.func (PySem.W.fnOf name qual params body scope dV kV doc pm an cdv ct),osl⟩) (hcd:PySem.W.codeIn K cdv qual=true) (S:FnScope N ps scope)
  (len:∀ vs H Q E,sp vs H Q E->vs.length=ps.length)
  (hbody:∀ (A:Around) (outer:List Env) (s:Shared) (H:Hp) (vs:List V) (Q:VK) (E:XK),Room k (A.deeper (envOfC qual scope s.heap.objs.size f cdv))->sp vs H Q E ->
   ∃ t,PSs (rb CX P w K mg base N qual scope f cdv A outer s H E) body t/\t { nx:=fun _ H'=>Q .non H',rt:=Q } (gF N vs) H) :
  FnOk P w K mg base CX (k+1) f (PySem.W.fnOf name qual params body scope dV kV doc pm an cdv ct) ps sp:=by
 refine ⟨len,fun A outer s H args us vs Q E hr e0 hb r hsp=>?_⟩
 have hl:=len _ _ _ _ hsp
 have KX:K.In s.heap:=e0.mod.kin.keeps fun b o e=>(e0.bs b o e).1
 have lim:s.heap.NoLimit:=e0.mod.nolimit.keeps fun b o e=>(e0.bs b o e).1
 have hkind:∀ y ∈ ps.zip us,scope.names.lookup y.1=some .local\/(scope.names.lookup y.1=some .cell/\((cellsFrom (s.heap.objs.size+1) scope.names []).lookup y.1).isSome=true):=fun ⟨n,v⟩ hy=>by
  rcases S.par n (List.of_mem_zip hy).1 with q | q
  ·exact .inl q
  ·exact .inr ⟨q,PySem.W.cellsFrom_some _ _ _ (.inl q)⟩
 refine codeAny_call_function hr.depth (KX _ _ lk) rfl S.co S.gen rfl (PySem.W.codeRec_of KX hcd) (hb _ _ _ _ ?_)
 refine wpAny_newFunctionEnv_cells S.kind hkind fun env he s1 x=>?_
 subst he
 refine ⟨lim.keeps x.toInCall.keep,codeAny_func ?_⟩
 obtain ⟨t,ht,hq⟩:=hbody A outer s H vs Q E (hr.deeper _) hsp
 have I:Inv (rb CX P w K mg base N qual scope f cdv A outer s H E) [] (gF N vs) H s1:=uL S hr.hd e0 hl r x
 refine wpAny_mono (ht [] s1 (gF N vs) H _ I hq) (fun fl s' hs=>?_) fun e s' hs=>hs
 have fin:∀ {σ':St} {H':Hp} {v:V} {u:Value},Inv (rb CX P w K mg base N qual scope f cdv A outer s H E) [] σ' H' s'->aK v u->Q v H'->CE outer P w H s Q u s':=
  fun {σ' H' v u} J rv q=>⟨v,H',J.os,J.bare,J.base,J.hok,rv,q⟩
 cases fl with
 | ret u=>
  obtain ⟨v,σ',H',J,rv,q⟩:=hs
  exact fin J rv q
 | next=>
  obtain ⟨σ',H',J,q⟩:=hs
  exact fin (v:=V.non) (u:=Value.none) J rfl q
 | brk=>
  obtain ⟨_,_,_,q⟩:=hs
  exact False.elim q
 | cont=>
  obtain ⟨_,_,_,q⟩:=hs
  exact False.elim q
end L2
namespace L2
open PySem PySem.Spec PyProof.Rows
section
variable {X:Cx} {x:Str} {p pos:Pos} {e:Expr} {es:List Expr} {t:TA} {id T:String} {r:List V->Hp->VK->Prop}
noncomputable def tCB (r:List V->Hp->VK->Prop) (t:TA):TE:=fun σ H Q=>t σ H fun vs H1=>r vs H1 Q
theorem im (hc:aZ X (.builtin id) r) (hg:Gl X x) (hm:X.mg x=none) (hv:bootBuiltins x=some (.builtin id)) (ha:PA X (e::es) t) (hn:x ≠ "__name__" := by decide) (hdb:(x == ("__debug__" : Str))=false:=by decide)
  (he:starEach (e::es) X.env=(false,eval e X.env)::starEach es X.env:=by rfl) (hpl:(backTo pos (starEach es X.env)).any (·.1)=false:=by rfl):PE X (.Call (.Name x p) (e::es) [] pos) (tCB r t):=by
 intro pins s σ H Q I h
 refine wpAny_Call_Name_kw (eC I hg hm hv ?_ hn hdb)
 exact PyProof.Rows.callWith_builtin1 (thn (ha pos pins s σ H _ I h) fun us s1 ⟨vs,H1,I1,r1,q1⟩=>hc pins s1 σ H1 vs us Q I1 r1 q1) he hpl
theorem iZ (hc:aZ X (.type T) r) (hg:Gl X x) (hm:X.mg x=none) (hv:bootBuiltins x=some (.type T)) (ha:PA X (e::es) t) (hn:x ≠ "__name__" := by decide) (hdb:(x == ("__debug__" : Str))=false:=by decide)
  (he:starEach (e::es) X.env=(false,eval e X.env)::starEach es X.env:=by rfl) (hpl:(backTo pos (starEach es X.env)).any (·.1)=false:=by rfl):PE X (.Call (.Name x p) (e::es) [] pos) (tCB r t):=by
 intro pins s σ H Q I h
 refine wpAny_Call_Name_kw (eC I hg hm hv ?_ hn hdb)
 exact PyProof.Rows.callWith_type1 (thn (ha pos pins s σ H _ I h) fun us s1 ⟨vs,H1,I1,r1,q1⟩=>hc pins s1 σ H1 vs us Q I1 r1 q1) he hpl
end
end L2
namespace HT
open PySem PyProof.Rows
section
open PySem.SeqAt
open PySem.AutoSeq1 (wpAny_loadPart')
open PySem.MeetsSeq PySem.MeetsSeq2 PySem.MeetsSeq3
end
section
variable {prog:Program} {w:World} {A:Around} {E:Value->Shared->Prop} {s:Shared}
theorem Am {t b:Addr} {vs ws:List Value} {Q:Value->Shared->Prop} (ht:IsTup s.heap t vs.toArray) (hb:IsTup s.heap b ws.toArray) (hv:vs ≠ [])
  (h1:ws=[]->Q (.ref t) s) (h2:ws ≠ []->Q (.ref s.heap.objs.size) { s with heap:=s.heap.push { cls:=.type "tuple", data:=.seq (vs++ws).toArray } })
  (hsz:vs.length+ws.length<=sizeLine):wpAny (model prog w) A (binaryOp .Add (.ref t) (.ref b)) Q E s:=by
 obtain ⟨⟨cls,dd,data,sl⟩,ho,hc,n,hd⟩:=id ht
 obtain ⟨⟨cls2,dd2,data2,sl2⟩,ho2,hc2,n2,hd2⟩:=id hb
 simp only at hc hd hc2 hd2
 subst hc hd hc2 hd2
 have e:vs.toArray++ws.toArray=(vs++ws).toArray:=by simp
 by_cases hw:ws=[]
 ·exact concat_meets ⟨_,ho,rfl⟩ ⟨_,ho2,rfl⟩ noFill_tuple_add seq_tuple_add PySem.F.slot_tuple_add PySem.F.entry_tuple_add (PySem.F.args_tuple_add_2 _ _)
   (tuple_addW1 t b vs.toArray ws.toArray n n2 dd dd2 sl sl2 (by simpa using hv) (by simp [hw])) ⟨ho,ho2,h1 hw⟩
 ·refine concat_meets ⟨_,ho,rfl⟩ ⟨_,ho2,rfl⟩ noFill_tuple_add seq_tuple_add PySem.F.slot_tuple_add PySem.F.entry_tuple_add (PySem.F.args_tuple_add_2 _ _)
   (tuple_addW2 t b vs.toArray ws.toArray n n2 dd dd2 sl sl2 (by simpa using hv) (by simpa using hw) (by rw [List.size_toArray,List.size_toArray];exact hsz)) ⟨ho,ho2,?_⟩
  rw [e]
  exact h2 hw
noncomputable def sIx (n d:Nat):Option Int->Nat
 | none=>d
 | some v=>if v < 0 then (v+(n:Int)).toNat else min v.toNat n
theorem EV (n d:Nat) (hd:d<=n) (o:Option Int):sIx n d o<=n:=by
 cases o with
 | none=>exact hd
 | some v=>
  show (if v < 0 then (v+(n:Int)).toNat else min v.toNat n)<=n
  by_cases hv:v < 0
  ·rw [if_pos hv];omega
  ·rw [if_neg hv];exact Nat.min_le_right _ _
theorem sY (v:Int) (n d:Nat):(if v < 0 then max (v+(n:Int)) 0 else min v (n:Int))=((sIx n d (some v):Nat):Int):=by
 show (if v < 0 then max (v+(n:Int)) 0 else min v (n:Int))=(((if v < 0 then (v+(n:Int)).toNat else min v.toNat n):Nat):Int)
 by_cases hv:v < 0
 ·simp only [if_pos hv];omega
 ·simp only [if_neg hv];omega
theorem rd (lo hi:Option Int) (n:Nat):Builtin.Slice.sliceAdjust lo hi 1 (n:Int)=(((sIx n 0 lo:Nat):Int),((sIx n n hi:Nat):Int)):=by
 have h1:¬ ((1:Int) < 0):=by omega
 unfold Builtin.Slice.sliceAdjust
 simp only [h1,if_false]
 refine Prod.ext ?_ ?_
 ·cases lo with
  | none=>rfl
  | some v=>exact sY v n 0
 ·cases hi with
  | none=>rfl
  | some v=>exact sY v n n
theorem re (i j:Nat):Builtin.Slice.slicePlaces (i:Int) (j:Int) 1=j - i:=by
 unfold Builtin.Slice.slicePlaces
 have h1:(1:Int) > 0:=by omega
 simp only [h1,if_true,Int.ediv_one]
 split <;> omega
theorem ki {v:Value} {o:Option Int} {Q:Option Int->Shared->Prop} (p:IsPart v o) (h:Q o s):wpAny (model prog w) A (Builtin.Slice.slicePartIndex v) Q E s:=by
 cases p with
 | none=>exact slicePart_none h
 | int i t=>exact slicePart_int h
theorem dP {sl:Addr} {vl vu:Value} {lo hi:Option Int} {n:Nat} {Q:Int × Int × Nat->Shared->Prop} (hs:s.heap.IsSliceOf sl vl vu .none) (pl:IsPart vl lo) (pu:IsPart vu hi)
  (h:Q (((sIx n 0 lo:Nat):Int),1,sIx n n hi - sIx n 0 lo) s):wpAny (model prog w) A (Builtin.Slice.sliceApplied (.ref sl) (pure (n:Int))) Q E s:=by
 obtain ⟨os,hos,hcs,hds⟩:=id hs
 unfold Builtin.Slice.sliceApplied Builtin.Slice.sliceFields
 refine wpAny_bind (wpAny_bind (wpAny_field hos hds (x:=vl) rfl (wpAny_bind (wpAny_field hos hds (x:=vu) rfl (wpAny_bind (wpAny_field hos hds (x:=.none) rfl (wpAny_pure ?_)))))))
 refine wpAny_bind (slicePart_none ?_)
 show wpAny _ _ (if ((1:Int) == 0)=true then _ else _) _ _ s
 rw [if_neg (by decide)]
 refine wpAny_bind (ki pl (wpAny_bind (ki pu (wpAny_bind (wpAny_pure ?_)))))
 show wpAny _ _ (match Builtin.Slice.sliceAdjust lo hi 1 (n:Int) with | (lo,hi)=>pure (lo,(1:Int),Builtin.Slice.slicePlaces lo hi 1)) _ _ s
 rw [rd lo hi n]
 show wpAny _ _ (pure (((sIx n 0 lo:Nat):Int),(1:Int),Builtin.Slice.slicePlaces ((sIx n 0 lo:Nat):Int) ((sIx n n hi:Nat):Int) 1)) _ _ s
 rw [re]
 exact wpAny_pure h
theorem wQ (xs:Array Value) (i k:Nat):((List.range k).filterMap fun (m:Nat)=>xs[((i:Int)+(m:Int) * 1).toNat]?).toArray=((xs.toList.drop i).take k).toArray:=by
 have e:(fun (m:Nat)=>xs[((i:Int)+(m:Int) * 1).toNat]?)=fun m=>xs[i+m]?:=by
  funext m
  have:((i:Int)+(m:Int) * 1).toNat=i+m:=by omega
  rw [this]
 rw [e]
 have:=pick_run xs i k
 rw [List.filterMap_map] at this
 have e2:((fun x=>xs[x]?) ∘ fun x=>i+x)=fun m=>xs[i+m]?:=rfl
 rw [e2] at this
 rw [this]
theorem io {t sl:Addr} {items:Array Value} {vl vu:Value} {lo hi:Option Int} {Q:Value->Shared->Prop} (ht:IsTup s.heap t items) (hs:s.heap.IsSliceOf sl vl vu .none) (pl:IsPart vl lo) (pu:IsPart vu hi)
  (hw:¬ (sIx items.size 0 lo=0/\sIx items.size items.size hi=items.size))
  (h:Q (.ref s.heap.objs.size) { s with heap:=s.heap.push { cls:=.type "tuple", data:=.seq ((items.toList.drop (sIx items.size 0 lo)).take (sIx items.size items.size hi - sIx items.size 0 lo)).toArray } })
  (hsz:items.size<=sizeLine):wpAny (model prog w) A (getItem (.ref t) (.ref sl)) Q E s:=by
 have htake:sizeOk (.seq ((items.toList.drop (sIx items.size 0 lo)).take (sIx items.size items.size hi - sIx items.size 0 lo)).toArray):=by
  show ((items.toList.drop (sIx items.size 0 lo)).take (sIx items.size items.size hi - sIx items.size 0 lo)).toArray.size<=sizeLine
  rw [List.size_toArray,List.length_take,List.length_drop,Array.length_toList]
  omega
 have hj:sIx items.size items.size hi<=items.size:=EV _ _ (Nat.le_refl _) hi
 obtain ⟨os,hos,hcs,hds⟩:=id hs
 have hTs:s.TypeIs (.ref sl) "slice" := ⟨os,hos,hcs⟩
 unfold getItem
 try with_reducible refine wpAny_holding ?_
 first | refine wpAny_bind (wpAny_pure ?_) | skip
 refine wpAny_bind (wpAny_sequenceKey ht.typeIs (by decide) ?_)
 refine wpAny_bind (wpAny_callSpecial?_slot (name:=Str.ofString "__getitem__") ht.typeIs PyProof.Rows.slot_tuple_getitem
  (wpAny_call_entry PyProof.Rows.slot_tuple_getitem ht.typeIs entry_tuple_getitem ?_ (args_tuple_getitem _ _)))
 show wpAny _ _ (Builtin.Tuple.tupleItemsOf (.ref t) >>= _) _ _ s
 refine wpAny_bind (tupleItemsOf_ ht ?_)
 refine wpAny_bind (wpAny_typeOf hTs ?_)
 rw [if_pos (by decide)]
 refine wpAny_bind (dP hs pl pu ?_)
 have hno:¬ ((((sIx items.size 0 lo:Nat):Int) == 0 && (1:Int) == 1 && (sIx items.size items.size hi - sIx items.size 0 lo) == items.size)=true):=by
  intro q
  rw [bAE,bAE] at q
  have q1:((sIx items.size 0 lo:Nat):Int)=0:=eq_of_beq q.1.1
  have q2:sIx items.size items.size hi - sIx items.size 0 lo=items.size:=eq_of_beq q.2
  exact hw ⟨by omega,by omega⟩
 show wpAny _ _ (if (((sIx items.size 0 lo:Nat):Int) == 0 && (1:Int) == 1 && (sIx items.size items.size hi - sIx items.size 0 lo) == items.size)=true then _ else _) _ _ s
 rw [if_neg hno,wQ]
 first
  | exact wpAny_bind (m:=Builtin.Tuple.tupleExact _) (wpAny_newObj_type (wpAny_pure ⟨_,rfl,wpAny_pure h⟩) htake)
  | exact wpAny_bind (m:=Builtin.Tuple.tupleExact _) (wpAny_newObj_type (wpAny_bind (wpAny_pure (wpAny_pure ⟨_,rfl,wpAny_pure h⟩))) htake)
  | exact wpAny_bind (wpAny_bind (m:=Builtin.Tuple.tupleExact _) (wpAny_newObj_type (wpAny_pure (wpAny_pure ⟨_,rfl,wpAny_pure h⟩)) htake))
  | exact wpAny_bind (wpAny_bind (m:=Builtin.Tuple.tupleExact _) (wpAny_newObj_type (wpAny_pure ⟨_,rfl,wpAny_pure h⟩) htake))
end
end HT
namespace L2
open PySem PySem.Spec PyProof.Rows
noncomputable abbrev TO:=St->Hp->(Option Int->Hp->Prop)->Prop
noncomputable def PO (X:Cx) (e:Option Expr) (t:TO):Prop:=
 ∀ (pins:List (Addr × Obj)) (s:Shared) (σ:St) (H:Hp) (Q:Option Int->Hp->Prop),Inv X pins σ H s->t σ H Q ->
  wpAny (model X.prog X.w) X.A (evalPart e X.env) (fun u s'=>∃ o H',Inv X pins σ H' s'/\IsPart u o/\Q o H') X.xe s
noncomputable def sZ:TO:=fun _ H Q=>Q none H
noncomputable def DI (t:TE):TO:=fun σ H Q=>t σ H fun x H1=>∃ i,x = .int i/\Q (some i) H1
section
variable {X:Cx} {e:Expr} {te:TE} {lo hi:Option Expr} {tl th:TO} {pos p2:Pos}
theorem An:PO X none sZ:=by
 intro pins s σ H Q I h
 rw [evalPart_none]
 exact wpAny_pure ⟨none,H,I,.none,h⟩
theorem Ao (h:PE X e te):PO X (some e) (DI te):=by
 intro pins s σ H Q I hw
 rw [evalPart_some]
 refine thn (h pins s σ H _ I hw) fun u s1 ⟨x,H1,I1,r1,q1⟩=>?_
 obtain ⟨i,rfl,q⟩:=q1
 obtain ⟨t,rfl⟩:=r1
 exact ⟨some i,H1,I1,.int i t,q⟩
noncomputable def SlR (X:Cx) (r:V->Option Int->Option Int->Hp->VK->Prop):Prop:=
 ∀ (pins:List (Addr × Obj)) (s:Shared) (σ:St) (H:Hp) (x:V) (v vl vu:Value) (lo hi:Option Int) (sl:Addr) (Q:VK),Inv X pins σ H s->aK x v->s.heap.IsSliceOf sl vl vu .none->IsPart vl lo->IsPart vu hi->r x lo hi H Q ->
  ∃ T id,typeLookup (.type T) "__getitem__" = pure (some (.builtin id))/\s.TypeIs v T/\wpAny (model X.prog X.w) X.A (getItem v (.ref sl)) (EP X pins σ Q) X.xe s
theorem SlR.or {r r':V->Option Int->Option Int->Hp->VK->Prop} (h:SlR X r) (h':SlR X r'):SlR X (fun x lo hi H Q=>r x lo hi H Q\/r' x lo hi H Q):=by
 intro pins s σ H x v vl vu lo hi sl Q I rx hs pl pu q
 rcases q with q | q
 ·exact h pins s σ H x v vl vu lo hi sl Q I rx hs pl pu q
 ·exact h' pins s σ H x v vl vu lo hi sl Q I rx hs pl pu q
noncomputable def tSl (r:V->Option Int->Option Int->Hp->VK->Prop) (te:TE) (tl th:TO):TE:=fun σ H Q=>te σ H fun x H1=>tl σ H1 fun l H2=>th σ H2 fun u H3=>r x l u H3 Q
theorem wR {r:V->Option Int->Option Int->Hp->VK->Prop} (hr:SlR X r) (he:PE X e te) (hl:PO X lo tl) (hu:PO X hi th):PE X (.Subscript e (.Slice lo hi none p2) pos) (tSl r te tl th):=by
 intro pins s σ H Q I h
 refine Subscript_ (thn (he pins s σ H _ I h) fun v s1 ⟨x,H1,I1,r1,q1⟩=>?_)
 refine wpAny_Slice (thn (hl pins s1 σ H1 _ I1 q1) fun vl s2 ⟨l,H2,I2,pl,q2⟩=>thn (hu pins s2 σ H2 _ I2 q2) fun vu s3 ⟨u,H3,I3,pu,q3⟩=>?_)
 rw [evalPart_none]
 refine wpAny_pure ?_
 have I4:Inv X pins σ H3 { s3 with heap:=s3.heap.push { cls:=.type "slice", data:=.fields #[vl,vu,.none] } }:=I3.kept (t':=s3.toks) fun b ob q=>Heap.get?_push_of_some _ q
 obtain ⟨T,id,hT,ht,hg⟩:=hr pins { s3 with heap:=s3.heap.push { cls:=.type "slice", data:=.fields #[vl,vu,.none] } } σ H3 x v vl vu l u s3.heap.objs.size Q I4 r1 (Heap.IsSliceOf.new ..) pl pu q3
 show wpAny (model X.prog X.w) X.A (subscriptTail e (.Slice lo hi none p2) v (.ref s3.heap.objs.size)) (EP X pins σ Q) X.xe { s3 with heap:=s3.heap.push { cls:=.type "slice", data:=.fields #[vl,vu,.none] } }
 exact tail_any (ops:=[.ref s3.heap.objs.size,v]) ht hT hg (by with_unfolding_all rfl)
noncomputable def kj (xs:List V) (lo hi:Option Int):List V:=(xs.drop (HT.sIx xs.length 0 lo)).take (HT.sIx xs.length xs.length hi - HT.sIx xs.length 0 lo)
theorem jv (xs:List V) (lo hi:Option Int):(kj xs lo hi).length<=xs.length:=by
 unfold kj
 rw [List.length_take,List.length_drop]
 omega
noncomputable def L3 (K:PySem.W.Frag):V->Option Int->Option Int->Hp->VK->Prop:=fun x lo hi H Q=>∃ a xs,x = .ref a/\SqT K H a xs ∧
 ¬ (HT.sIx xs.length 0 lo=0/\HT.sIx xs.length xs.length hi=xs.length)/\∀ p,H p=none->Q (.ref p) (upd H p (.tup (kj xs lo hi)))
theorem EW:SlR X (L3 X.K):=by
 intro pins s σ H x v vl vu lo hi sl Q I rx hs pl pu h
 obtain ⟨a,xs,rfl,hx,hw,q⟩:=h
 cases rx
 obtain ⟨its,r,ht,hz⟩:=I.tuple hx
 have hlen:its.toArray.size=xs.length:=by rw [List.size_toArray];exact r.length.symm
 refine ⟨"tuple", _,PyProof.Rows.slot_tuple_getitem.lookup,ht.typeIs,?_⟩
 refine HT.io ht hs pl pu (by rw [hlen];exact hw) ?_ (by rw [hlen];exact hz)
 rw [hlen]
 refine ⟨.ref s.heap.objs.size,_,I.laid (t':=s.toks) (o:=.tup (kj xs lo hi)) (fun b ob q=>Heap.get?_push_of_some _ q) (Nat.le_refl _) ?_,rfl,q _ (I.hok.fresh (Nat.le_refl _))⟩
 exact ⟨Nat.le_trans (jv xs lo hi) hz,_,(r.drop (HT.sIx xs.length 0 lo)).take (HT.sIx xs.length xs.length hi - HT.sIx xs.length 0 lo),nF.new _ _⟩
noncomputable def Jy (K:PySem.W.Frag):R2:=fun x y H Q=>∃ a b xs ys,x = .ref a/\y = .ref b/\SqT K H a xs/\SqT K H b ys/\xs ≠ []/\xs.length+ys.length<=sizeLine ∧
 (ys=[]->Q (.ref a) H)/\(ys ≠ []->∀ p,H p=none->Q (.ref p) (upd H p (.tup (xs++ys))))
theorem aM.nil_iff {xs:List V} {us:List Value} (r:aM xs us):us=[] ↔ xs=[]:=by
 cases r with
 | nil=>simp
 | cons _ _=>simp
theorem Ap:OpR X (binaryOp .Add) (Jy X.K):=by
 intro pins s σ H x y v u Q I rx ry h
 obtain ⟨a,b,xs,ys,rfl,rfl,ha,hb,hx,hz,q1,q2⟩:=h
 cases rx
 cases ry
 obtain ⟨its,r1,p1,_⟩:=I.tuple ha
 obtain ⟨its2,r2,p2,_⟩:=I.tuple hb
 refine HT.Am p1 p2 (fun z=>hx (r1.nil_iff.mp z)) (fun z=>⟨.ref a,H,I,rfl,q1 (r2.nil_iff.mp z)⟩) (fun z=>?_) (by rw [<-r1.length,<-r2.length];exact hz)
 refine ⟨.ref s.heap.objs.size,_,I.laid (t':=s.toks) (o:=.tup (xs++ys)) (fun b ob q=>Heap.get?_push_of_some _ q) (Nat.le_refl _) ?_,rfl,q2 (fun w=>z (r2.nil_iff.mpr w)) _ (I.hok.fresh (Nat.le_refl _))⟩
 exact ⟨by rw [List.length_append];exact hz,_,r1.append r2,nF.new _ _⟩
end
end L2
namespace L2
open PySem PySem.Spec PyProof.Rows
noncomputable def ixN (n:Nat) (i:Int):Option Nat:=if 0<=i then (if i < n then some i.toNat else none) else if -(n:Int)<=i then some (i+n).toNat else none
noncomputable def atI {α:Type} (xs:List α) (i:Int):Option α:=(ixN xs.length i).bind fun j=>xs[j]?
theorem nI {n:Nat} {i:Int} {j:Nat} (h:ixN n i=some j):seqIndex? i n=some j/\j < n/\-(n:Int)<=i/\i < n:=by
 unfold ixN at h
 by_cases h0:0<=i
 ·rw [if_pos h0] at h
  by_cases h1:i < n
  ·rw [if_pos h1] at h
   have e:i.toNat=j:=Option.some.inj h
   exact ⟨by rw [seqIndex_of h0 h1,e],by omega,by omega,h1⟩
  ·rw [if_neg h1] at h;cases h
 ·rw [if_neg h0] at h
  by_cases h1:-(n:Int)<=i
  ·rw [if_pos h1] at h
   have e:(i+n).toNat=j:=Option.some.inj h
   exact ⟨by rw [seqIndex_neg (by omega) h1,e],by omega,h1,by omega⟩
  ·rw [if_neg h1] at h;cases h
theorem nJ {α:Type} {xs:List α} {i:Int} {v:α} (h:atI xs i=some v):∃ j,seqIndex? i xs.length=some j/\xs[j]?=some v/\j < xs.length/\-(xs.length:Int)<=i/\i < xs.length:=by
 unfold atI at h
 cases e:ixN xs.length i with
 | none=>rw [e] at h;cases h
 | some j=>
  rw [e] at h
  obtain ⟨h1,h2,h3,h4⟩:=nI e
  exact ⟨j,h1,h,h2,h3,h4⟩
theorem tq {α:Type} {xs:List α} {j:Nat} {v:α} (h:xs[j]?=some v):atI xs (j:Int)=some v:=by
 have hj:j < xs.length:=(List.getElem?_eq_some_iff.mp h).1
 have e:ixN xs.length (j:Int)=some j:=by
  unfold ixN
  rw [if_pos (by omega),if_pos (by omega)];simp
 unfold atI;rw [e];exact h
noncomputable def tv (b:Expr):Prop:=∀ o i,subscripted b false o i=operate [o,i] (getItem o i)
noncomputable def IxR (X:Cx) (r:R2):Prop:=
 ∀ (value slice:Expr) (pins:List (Addr × Obj)) (s:Shared) (σ:St) (H:Hp) (x y:V) (v u:Value) (Q:VK),Inv X pins σ H s->aK x v->aK y u->r x y H Q ->
  subscripted slice false v u=operate [v,u] (getItem v u)->wpAny (model X.prog X.w) X.A (subscriptTail value slice v u) (EP X pins σ Q) X.xe s
noncomputable def MtR (X:Cx) (id:String) (r:V->List V->Hp->VK->Prop):Prop:=
 ∀ (pins:List (Addr × Obj)) (s:Shared) (σ:St) (H:Hp) (x:V) (xs:List V) (v:Value) (us:List Value) (Q:VK),Inv X pins σ H s->aK x v->aM xs us->r x xs H Q ->
  wpAny (model X.prog X.w) X.A (call (.builtin id) (v::us)) (EP X pins σ Q) X.xe s
section
variable {X:Cx} {a b:Expr} {ta tb:TE} {pos:Pos}
theorem IxR.or {r r':R2} (h:IxR X r) (h':IxR X r'):IxR X (fun x y H Q=>r x y H Q\/r' x y H Q):=by
 intro value slice pins s σ H x y v u Q I rx ry q hs
 rcases q with q | q
 ·exact h value slice pins s σ H x y v u Q I rx ry q hs
 ·exact h' value slice pins s σ H x y v u Q I rx ry q hs
theorem DJ {r:R2} (hr:IxR X r) (ha:PE X a ta) (hb:PE X b tb) (hs:tv b):PE X (.Subscript a b pos) (tOp r ta tb):=by
 intro pins s σ H Q I h
 exact Subscript_ (EG ha hb I h fun v u s2 x y H2 I2 rx ry q=>hr a b pins s2 σ H2 x y v u Q I2 rx ry q (hs _ _))
noncomputable def Jz (K:PySem.W.Frag):R2:=fun x y H Q=>∃ p xs i v,x = .ref p/\y = .int i/\SqL K H p xs/\atI xs i=some v/\Q v H
noncomputable def JA (K:PySem.W.Frag):R2:=fun x y H Q=>∃ p xs i v,x = .ref p/\y = .int i/\SqT K H p xs/\atI xs i=some v/\Q v H
noncomputable def JB:R2:=fun x y H Q=>∃ z i c,x = .str z/\y = .int i/\z.length<=sizeLine/\atI z.cps.toList i=some c/\Q (.str ⟨#[c]⟩) H
theorem LS:IxR X (Jz X.K):=by
 intro value slice pins s σ H x y v u Q I rx ry h hs
 obtain ⟨p,xs,i,z,rfl,rfl,hq,he,q⟩:=h
 cases rx
 obtain ⟨t,rfl⟩:=ry
 obtain ⟨its,r,pl,hz⟩:=I.list hq
 obtain ⟨j,h1,h2,h3,h4,h5⟩:=nJ he
 obtain ⟨w,ew,rw'⟩:=r.get h2
 have hl:=r.length
 have hn:=iY
 have fin:EP X pins σ Q w s:=⟨z,H,I,rw',q⟩
 by_cases h0:0<=i
 ·have hj:i.toNat=j:=by
   rw [seqIndex_of h0 h5] at h1
   exact Option.some.inj h1
  exact item_listR pl.isList h0 (by omega) (by rw [hj];simpa using ew) fin hs
 ·have hj:(i+(its.toArray.size:Int)).toNat=j:=by
   rw [seqIndex_neg (by omega) h4] at h1
   rw [List.size_toArray,<-hl]
   exact Option.some.inj h1
  exact subscriptTail_builtinR (x:=w) pl.isList.typeIs slot_list_getitem.lookup
   (wpAny_getItem_list_neg (Q:=fun r s'=>r=w/\EP X pins σ Q r s') pl.isList (by omega) (by rw [List.size_toArray] <;> omega) (by omega) (by rw [hj];simpa using ew) ⟨rfl,fin⟩) hs
theorem wU:IxR X (JA X.K):=by
 intro value slice pins s σ H x y v u Q I rx ry h hs
 obtain ⟨p,xs,i,z,rfl,rfl,hq,he,q⟩:=h
 cases rx
 obtain ⟨t,rfl⟩:=ry
 obtain ⟨its,r,pl,hz⟩:=I.tuple hq
 obtain ⟨j,h1,h2,h3,h4,h5⟩:=nJ he
 obtain ⟨w,ew,rw'⟩:=r.get h2
 have hl:=r.length
 have hn:=iY
 have fin:EP X pins σ Q w s:=⟨z,H,I,rw',q⟩
 exact subscriptTail_builtinR (x:=w) pl.typeIs slot_tuple_getitem.lookup
  (getItem_tuple (j:=j) (Q:=fun r s'=>r=w/\EP X pins σ Q r s') pl (by omega) (by omega) (by rw [List.size_toArray,<-hl];exact h1) (by simpa using ew) ⟨rfl,fin⟩) hs
theorem EX:IxR X JB:=by
 intro value slice pins s σ H x y v u Q I rx ry h hs
 obtain ⟨z,i,c,rfl,rfl,hz,he,q⟩:=h
 obtain ⟨t,rfl⟩:=rx
 obtain ⟨t',rfl⟩:=ry
 obtain ⟨j,h1,h2,h3,h4,h5⟩:=nJ he
 have hl:z.cps.toList.length=z.length:=by simp [Str.length]
 rw [hl] at h1 h4 h5
 have hn:=iY
 exact tail_any (typeIs_str s z t) slot_str_getitem.lookup (getItem_str (c:=c) (by
  have e1:decide (i < -(2 ^ 63:Int))=false:=decide_eq_false (by omega)
  have e2:decide (i ≥ 2 ^ 63)=false:=decide_eq_false (by omega)
  rw [e1,e2,Bool.or_false]) (by rw [h1];simpa using h2) ⟨.str ⟨#[c]⟩,H,I.tok _,⟨_,rfl⟩,q⟩) hs
noncomputable def rIx (K:PySem.W.Frag):R2:=fun x y H Q=>Jz K x y H Q\/JA K x y H Q\/JB x y H Q
theorem wV:IxR X (rIx X.K):=LS.or (wU.or EX)
theorem rf (its:List Value) (n j:Nat) (u:Value):Obj.mapSeq (·.setIfInBounds j u) { cls:=.type "list", data:=.seq its.toArray n }={ cls:=.type "list", data:=.seq (its.set j u).toArray n }:=by
 simp [Obj.mapSeq]
theorem Inv.lst {pins:List (Addr × Obj)} {σ:St} {H:Hp} {s:Shared} {p:Addr} {xs:List V} (I:Inv X pins σ H s) (h:H p=some (.lst xs)) :
  ∃ (its:List Value) (n:Nat),aM xs its/\s.heap.get? p=some { cls:=.type "list", data:=.seq its.toArray n }/\xs.length<=sizeLine:=by
 obtain ⟨z,its,n,r,e⟩:=I.hok p _ h
 exact ⟨its,n,r,e,z⟩
theorem Inv.lstUpd {pins:List (Addr × Obj)} {σ:St} {H:Hp} {s:Shared} {p:Addr} {xs ys:List V} {its its':List Value} {n n':Nat} {f:Obj->Obj} (I:Inv X pins σ H s) (h:H p=some (.lst xs))
  (ho:s.heap.get? p=some { cls:=.type "list", data:=.seq its.toArray n }) (hf:f { cls:=.type "list", data:=.seq its.toArray n }={ cls:=.type "list", data:=.seq its'.toArray n' }) (r:aM ys its') (hz:ys.length<=sizeLine) (t:Nat) :
  Inv X pins σ (upd H p (.lst ys)) { s with heap:=s.heap.update p f,toks:=t }:=by
 have e:(s.heap.update p f).get? p=some { cls:=.type "list", data:=.seq its'.toArray n' }:=by
  rw [Heap.get?_update_self f ho (by rw [hf] <;> rfl),hf]
 refine I.write (x:=p) (e:=p) (by rw [h];trivial) (.inl rfl) (fun b u hb q=>(Heap.get?_update_other _ _ (Ne.symm hb)).trans q) ⟨_,e⟩ ?_
 exact ⟨hz,its',n',r,e⟩
noncomputable def JC:V->V->V->Hp->(Hp->Prop)->Prop:=fun o i v H Q=>∃ p xs k j,o = .ref p/\i = .int k/\H p=some (.lst xs)/\ixN xs.length k=some j/\Q (upd H p (.lst (xs.set j v)))
theorem wW:Ey X JC:=by
 intro pins s σ H o i v ov iv u Q I ro ri rv h
 obtain ⟨p,xs,k,j,rfl,rfl,hp,hj,q⟩:=h
 cases ro
 obtain ⟨t,rfl⟩:=ri
 obtain ⟨its,n,r,ho,hz⟩:=I.lst hp
 obtain ⟨h1,h2,h3,h4⟩:=nI hj
 have hl:=r.length
 have hn:=iY
 have I':Inv X pins σ (upd H p (.lst (xs.set j v))) { s with heap:=s.heap.update p (Obj.mapSeq (·.setIfInBounds j u)) }:=
  I.lstUpd hp ho (rf its n j u) (r.set rv j) (by rw [List.length_set];exact hz) s.toks
 by_cases h0:0<=k
 ·have hk:k.toNat=j:=by
   rw [seqIndex_of h0 h4] at h1
   exact Option.some.inj h1
  exact PySem.W.ki_setAt ho h0 (by omega) (by rw [List.size_toArray,<-hl];exact h4) (by rw [hk];exact ⟨_,I',q⟩)
 ·have hk:(k+(its.toArray.size:Int)).toNat=j:=by
   rw [seqIndex_neg (by omega) h3] at h1
   rw [List.size_toArray,<-hl]
   exact Option.some.inj h1
  exact PySem.W.ki_setBack ho (by omega) (by rw [List.size_toArray,<-hl];exact h3) (by omega) (by rw [hk];exact ⟨_,I',q⟩)
theorem nK (lo hi:Option Int) (n:Nat):(sliceBounds lo hi none n).1=((HT.sIx n 0 lo:Nat):Int)/\(sliceBounds lo hi none n).2.1=((HT.sIx n n hi:Nat):Int)/\(sliceBounds lo hi none n).2.2=1:=by
 refine ⟨?_,?_,rfl⟩
 ·cases lo with
  | none=>simp [sliceBounds,HT.sIx]
  | some i=>
   simp only [sliceBounds,HT.sIx,Option.getD_none,show (1:Int) > 0 by decide,if_true]
   by_cases h:i < 0
   ·simp only [h,if_true] <;> omega
   ·simp only [h,if_false] <;> omega
 ·cases hi with
  | none=>simp [sliceBounds,HT.sIx]
  | some i=>
   simp only [sliceBounds,HT.sIx,Option.getD_none,show (1:Int) > 0 by decide,if_true]
   by_cases h:i < 0
   ·simp only [h,if_true] <;> omega
   ·simp only [h,if_false] <;> omega
theorem mm (its:List Value) (lo hi:Option Int):slicePick its.toArray lo hi none=((its.drop (HT.sIx its.length 0 lo)).take (HT.sIx its.length its.length hi - HT.sIx its.length 0 lo)).toArray:=by
 obtain ⟨h1,h2,h3⟩:=nK lo hi its.toArray.size
 unfold slicePick
 rw [h1,h2,h3]
 simp only [sliceRange_one,pick_run,List.size_toArray] <;> rfl
noncomputable def L4 (K:PySem.W.Frag):V->Option Int->Option Int->Hp->VK->Prop:=fun x lo hi H Q=>∃ a xs,x = .ref a/\SqL K H a xs/\∀ p,H p=none->Q (.ref p) (upd H p (.lst (kj xs lo hi)))
theorem Aq:SlR X (L4 X.K):=by
 intro pins s σ H x v vl vu lo hi sl Q I rx hs pl pu h
 obtain ⟨a,xs,rfl,hx,q⟩:=h
 cases rx
 obtain ⟨its,r,ht,hz⟩:=I.list hx
 have hlen:=r.length
 refine ⟨"list", _,slot_list_getitem.lookup,ht.isList.typeIs,?_⟩
 refine wpAny_getItem_list_slice ht.isList hs pl pu .none (by simp) ?_ (by rw [List.size_toArray] <;> omega)
 rw [mm,<-hlen]
 refine ⟨.ref s.heap.objs.size,_,I.laid (t':=s.toks) (o:=.lst (kj xs lo hi)) (fun b ob q=>Heap.get?_push_of_some _ q) (Nat.le_refl _) ?_,rfl,q _ (I.hok.fresh (Nat.le_refl _))⟩
 exact ⟨Nat.le_trans (jv xs lo hi) hz,_,0,(r.drop (HT.sIx xs.length 0 lo)).take (HT.sIx xs.length xs.length hi - HT.sIx xs.length 0 lo),Heap.get?_push_size _ rfl⟩
noncomputable def dQ:V->Bool
 | .non=>true
 | .bl _=>true
 | .int _=>true
 | .str _=>true
 | _=>false
noncomputable def eqV:V->V->Bool
 | .non,.non=>true
 | .bl a,.bl b=>a == b
 | .bl a,.int b=>(if a then 1 else 0) == b
 | .int a,.bl b=>a == (if b then 1 else 0)
 | .int a,.int b=>a == b
 | .str a,.str b=>a == b
 | _,_=>false
theorem EY {A:Around} {s:Shared} {y x:V} {u v:Value} (ry:aK y u) (rx:aK x v) (fy:dQ y=true) (fx:dQ x=true):SeqAt.EqAt A s u v (eqV y x):=by
 cases y with
 | non=>
  cases ry
  cases x with
  | non=>cases rx;exact SeqAt.EqAt.same _
  | bl b=>cases rx;exact SeqAt.EqAt.none_bool b
  | int b=>obtain ⟨t,rfl⟩:=rx;exact SeqAt.EqAt.none_int b t
  | str b=>obtain ⟨t,rfl⟩:=rx;exact SeqAt.EqAt.none_str b t
  | _=>exact absurd (show false=true from fx) Bool.false_ne_true
 | bl a=>
  cases ry
  cases x with
  | non=>cases rx;exact SeqAt.EqAt.bool_none a
  | bl b=>cases rx;exact SeqAt.EqAt.bool_bool a b
  | int b=>obtain ⟨t,rfl⟩:=rx;exact SeqAt.EqAt.bool_int a b t
  | str b=>obtain ⟨t,rfl⟩:=rx;exact SeqAt.EqAt.bool_str a b t
  | _=>exact absurd (show false=true from fx) Bool.false_ne_true
 | int a=>
  obtain ⟨t',rfl⟩:=ry
  cases x with
  | non=>cases rx;exact SeqAt.EqAt.int_none a t'
  | bl b=>cases rx;exact SeqAt.EqAt.int_bool a t' b
  | int b=>obtain ⟨t,rfl⟩:=rx;exact SeqAt.EqAt.int_int a t' b t
  | str b=>obtain ⟨t,rfl⟩:=rx;exact SeqAt.EqAt.int_str a t' b t
  | _=>exact absurd (show false=true from fx) Bool.false_ne_true
 | str a=>
  obtain ⟨t',rfl⟩:=ry
  cases x with
  | non=>cases rx;exact SeqAt.EqAt.str_none a t'
  | bl b=>cases rx;exact SeqAt.EqAt.str_bool a t' b
  | int b=>obtain ⟨t,rfl⟩:=rx;exact SeqAt.EqAt.str_int a t' b t
  | str b=>obtain ⟨t,rfl⟩:=rx;exact SeqAt.EqAt.str_str a t' b t
  | _=>exact absurd (show false=true from fx) Bool.false_ne_true
 | _=>exact absurd (show false=true from fy) Bool.false_ne_true
noncomputable def eqU (x:V) (u:Value):Bool:=match u with
 | .none=>eqV .non x
 | .bool b=>eqV (.bl b) x
 | .int i _=>eqV (.int i) x
 | .str z _=>eqV (.str z) x
 | _=>false
theorem rh {x y:V} {u:Value} (r:aK y u) (f:dQ y=true):eqU x u=eqV y x:=by
 cases y with
 | non=>cases r;rfl
 | bl b=>cases r;rfl
 | int i=>obtain ⟨t,rfl⟩:=r;rfl
 | str z=>obtain ⟨t,rfl⟩:=r;rfl
 | _=>exact absurd (show false=true from f) Bool.false_ne_true
theorem ip {x:V}:∀ {xs:List V} {us:List Value},aM xs us->xs.all dQ=true->us.any (eqU x)=xs.any fun y=>eqV y x
 | _,_,.nil,_=>rfl
 | y::xs,u::us,.cons r t,f=>by
  rw [List.all_cons,bAE] at f
  rw [List.any_cons,List.any_cons,rh r f.1,ip t f.2]
theorem dR {A:Around} {s:Shared} {x:V} {v:Value} (rx:aK x v) (fx:dQ x=true):∀ {xs:List V} {us:List Value},aM xs us->xs.all dQ=true->∀ u ∈ us,SeqAt.EqAt A s u v (eqU x u)
 | _,_,.nil,_=>fun u hu=>by cases hu
 | y::xs,u::us,.cons r t,f=>fun u' hu=>by
  rw [List.all_cons,bAE] at f
  rcases List.mem_cons.mp hu with rfl | hu
  ·rw [rh r f.1];exact EY r rx f.1 fx
  ·exact dR rx fx t f.2 u' hu
noncomputable def inV (x:V) (xs:List V):Bool:=xs.any fun y=>eqV y x
noncomputable def rIn (K:PySem.W.Frag) (neg:Bool):R2:=fun x y H Q=>∃ p xs,y = .ref p/\(SqL K H p xs\/SqT K H p xs)/\dQ x=true/\xs.all dQ=true/\Q (.bl (if neg then !inV x xs else inV x xs)) H
theorem uM:OpR X (compareOp .In) (rIn X.K false):=by
 intro pins s σ H x y v u Q I rx ry h
 obtain ⟨p,xs,rfl,hq,fx,fs,q⟩:=h
 cases ry
 rcases hq with hq | hq
 ·obtain ⟨its,r,pl,hz⟩:=I.list hq
  refine SeqAt.in_listAt (eqU x) pl.isList (fun w hw=>dR rx fx r fs w (by simpa using hw)) ⟨.bl _,H,I,rfl,?_⟩
  rw [show its.toArray.any (eqU x)=its.any (eqU x) by simp,ip r fs]
  exact q
 ·obtain ⟨its,r,pl,hz⟩:=I.tuple hq
  refine SeqAt.in_tupleAt (eqU x) pl (fun w hw=>dR rx fx r fs w (by simpa using hw)) ⟨.bl _,H,I,rfl,?_⟩
  rw [show its.toArray.any (eqU x)=its.any (eqU x) by simp,ip r fs]
  exact q
theorem nM:OpR X (compareOp .NotIn) (rIn X.K true):=by
 intro pins s σ H x y v u Q I rx ry h
 obtain ⟨p,xs,rfl,hq,fx,fs,q⟩:=h
 cases ry
 rcases hq with hq | hq
 ·obtain ⟨its,r,pl,hz⟩:=I.list hq
  refine SeqAt.notIn_listAt (eqU x) pl.isList (fun w hw=>dR rx fx r fs w (by simpa using hw)) ⟨.bl _,H,I,rfl,?_⟩
  rw [show its.toArray.any (eqU x)=its.any (eqU x) by simp,ip r fs]
  exact q
 ·obtain ⟨its,r,pl,hz⟩:=I.tuple hq
  refine SeqAt.notIn_tupleAt (eqU x) pl (fun w hw=>dR rx fx r fs w (by simpa using hw)) ⟨.bl _,H,I,rfl,?_⟩
  rw [show its.toArray.any (eqU x)=its.any (eqU x) by simp,ip r fs]
  exact q
theorem nP:aZ X (.builtin "len") (fun xs H Q=>∃ p ys,xs=[.ref p]/\(SqL X.K H p ys\/SqT X.K H p ys)/\Q (.int ys.length) H):=by
 intro pins s σ H xs us Q I r h
 obtain ⟨p,ys,rfl,hq,q⟩:=h
 obtain ⟨u,rfl,rx⟩:=cW r
 cases rx
 have hn:=iY
 rcases hq with hq | hq
 ·obtain ⟨its,r',pl,hz⟩:=I.list hq
  have hlen:=r'.length
  exact Calls.call_len_list pl.isList (by simp only [List.size_toArray] <;> omega) ⟨.int ys.length,H,I.tok _,⟨s.toks+1,by rw [List.size_toArray,hlen]⟩,q⟩
 ·obtain ⟨its,r',pl,hz⟩:=I.tuple hq
  have hlen:=r'.length
  exact len_tuple pl (by simp only [List.size_toArray] <;> omega) ⟨.int ys.length,H,I.tok _,⟨s.toks+1,by rw [List.size_toArray,hlen]⟩,q⟩
theorem nQ:aZ X (.type "list") (fun xs H Q=>∃ p ys,xs=[.ref p]/\(SqL X.K H p ys\/SqT X.K H p ys)/\∀ l,H l=none->Q (.ref l) (upd H l (.lst ys))):=by
 intro pins s σ H xs us Q I r h
 obtain ⟨p,ys,rfl,hq,q⟩:=h
 obtain ⟨u,rfl,rx⟩:=cW r
 cases rx
 have fin:∀ (its:List Value),aM ys its->ys.length<=sizeLine->∀ (h':Heap) (c':Nat),(∀ b o',s.heap.get? b=some o'->h'.get? b=some o') ->
   h'.get? s.heap.objs.size=some { cls:=.type "list", dict:=none,data:=.seq its.toArray c',slots:=#[] }->EP X pins σ Q (.ref s.heap.objs.size) { s with heap:=h' }:=fun its r' hz h' c' kp e=>
  ⟨.ref s.heap.objs.size,_,I.laid (t':=s.toks) kp (Nat.le_refl _) (show bL X.prog X.w _ h' _ (.lst ys) from ⟨hz,its,c',r',e⟩),rfl,q _ (I.hok.fresh (Nat.le_refl _))⟩
 rcases hq with hq | hq
 ·obtain ⟨its,r',pl,hz⟩:=I.list hq
  have hlen:=r'.length
  obtain ⟨o,ho,hc,n,hd⟩:=pl.isList
  exact call_list_seq p (.inl rfl) ho hc hd (fun h' c' kp e=>fin its r' hz h' c' kp e) (by simp only [List.size_toArray] <;> omega)
 ·obtain ⟨its,r',pl,hz⟩:=I.tuple hq
  have hlen:=r'.length
  obtain ⟨o,ho,hc,n,hd⟩:=pl
  exact call_list_seq p (.inr rfl) ho hc hd (fun h' c' kp e=>fin its r' hz h' c' kp e) (by simp only [List.size_toArray] <;> omega)
theorem mq:aZ X (.type "tuple") (fun xs H Q=>∃ p ys,xs=[.ref p]/\((SqL X.K H p ys/\∀ l,H l=none->Q (.ref l) (upd H l (.tup ys)))\/(SqT X.K H p ys/\Q (.ref p) H))):=by
 intro pins s σ H xs us Q I r h
 obtain ⟨p,ys,rfl,h⟩:=h
 obtain ⟨u,rfl,rx⟩:=cW r
 cases rx
 rcases h with ⟨hq,q⟩ | ⟨hq,q⟩
 ·obtain ⟨its,r',pl,hz⟩:=I.list hq
  have hlen:=r'.length
  refine call_tuple_list pl.isList (fun h' kp=>?_) (by simp only [List.size_toArray] <;> omega)
  have I1:Inv X pins σ H { s with heap:=h' }:=I.kept (t':=s.toks) kp
  have I2:Inv X pins σ (upd H h'.objs.size (.tup ys)) { s with heap:=h'.push { cls:=.type "tuple", data:=.seq its.toArray } }:=
   I1.laid (t':=s.toks) (fun b o e=>Heap.get?_push_of_some _ e) (Nat.le_refl _) (show bL X.prog X.w _ _ _ (.tup ys) from ⟨hz,its,r',nF.new _ _⟩)
  exact ⟨.ref h'.objs.size,_,I2,rfl,q _ (I1.hok.fresh (Nat.le_refl _))⟩
 ·obtain ⟨its,r',pl,hz⟩:=I.tuple hq
  exact call_tuple_same pl ⟨.ref p,H,I,rfl,q⟩
noncomputable def tyV (K:PySem.W.Frag) (T:String) (x:V) (H:Hp):Prop:=match x with
 | .str _=>T = "str"
 | .int _=>T = "int"
 | .ref p=>(T = "list"/\∃ xs,SqL K H p xs)\/(T = "tuple"/\((∃ o,K.lookup p=some o/\o.cls = .type "tuple"/\o.dict=none)\/∃ xs,H p=some (.tup xs))) ∨
   (T = "dict"/\((∃ kvs,H p=some (.dK kvs))\/∃ kvs,H p=some (.dT kvs)))\/(T = "set"/\∃ S n,H p=some (.set S n))
 | _=>False
theorem EZ {pins:List (Addr × Obj)} {σ:St} {H:Hp} {s:Shared} {T:String} {x:V} {v:Value} (I:Inv X pins σ H s) (r:aK x v) (ty:tyV X.K T x H) :
  s.TypeIs v T/\∀ a,v = .ref a->∃ ob,s.heap.get? a=some ob/\ob.dict=none:=by
 cases x with
 | str z=>
  obtain ⟨t,rfl⟩:=r
  cases (show T = "str" from ty)
  exact ⟨typeIs_str s z t,fun _ e=>nomatch e⟩
 | int i=>
  obtain ⟨t,rfl⟩:=r
  cases (show T = "int" from ty)
  exact ⟨typeIs_int s i t,fun _ e=>nomatch e⟩
 | ref p=>
  cases r
  rcases ty with ⟨rfl,xs,hq⟩ | ⟨rfl,⟨o,hk,hc,hd⟩ | ⟨xs,hk⟩⟩ | ⟨rfl,hk⟩ | ⟨rfl,S,n,hk⟩
  ·obtain ⟨its,_,pl,_⟩:=I.list hq
   refine ⟨pl.isList.typeIs,fun a e=>?_⟩
   cases e
   obtain ⟨o,n,e,c,hd,_⟩:=pl
   exact ⟨o,e,hd⟩
  ·refine ⟨⟨o,I.kIn p o hk,hc⟩,fun a e=>?_⟩
   cases e
   exact ⟨o,I.kIn _ o hk,hd⟩
  ·obtain ⟨_,its,_,o,e,hc,_,_,hd⟩:=I.hok p _ hk
   refine ⟨⟨o,e,hc⟩,fun a e2=>?_⟩
   cases e2
   exact ⟨o,e,hd⟩
  ·have z:∃ o,s.heap.get? p=some o/\o.ExactDict:=by
    rcases hk with ⟨kvs,hk⟩ | ⟨kvs,hk⟩
    ·obtain ⟨_,_,_,_,o,_,_,e,ex,_⟩:=I.hok p _ hk
     exact ⟨o,e,ex⟩
    ·obtain ⟨_,_,_,_,o,_,_,e,ex,_⟩:=I.hok p _ hk
     exact ⟨o,e,ex⟩
   obtain ⟨o,e,ex⟩:=z
   refine ⟨⟨o,e,ex.1⟩,fun a e2=>?_⟩
   cases e2
   exact ⟨o,e,ex.2.1⟩
  ·obtain ⟨o,_,_,_,e,ex,_⟩:=I.hok p _ hk
   refine ⟨⟨o,e,ex.1⟩,fun a e2=>?_⟩
   cases e2
   exact ⟨o,e,ex.2.1⟩
 | _=>exact False.elim ty
noncomputable def tBM (K:PySem.W.Frag) (T:String) (r:V->List V->Hp->VK->Prop) (to:TE) (t:TA):TE:=fun σ H Q=>to σ H fun x H1=>tyV K T x H1/\t σ H1 fun xs H2=>r x xs H2 Q
variable {o e:Expr} {es:List Expr} {to:TE} {t:TA} {name:Str} {apos cpos:Pos} {T id:String} {r:V->List V->Hp->VK->Prop}
theorem tx (pa:PlainAttrs T) (slot:Slot T name id) (hty:typeOf (.builtin id)=pure (.type "method_descriptor")) (hm:MtR X id r) (ho:PE X o to) (ha:PA X (e::es) t)
  (hbase:attributeBase o name X.env (eval o X.env)=eval o X.env:=by rfl)
  (hfew:((backTo cpos (starEach (e::es) X.env)).all (fun x=>!x.1) && (backToKw cpos (keywordEach [] X.env)).all (fun x=>x.1.isSome)
   && decide ((e::es).length+([]:List Keyword).length+(if ([]:List Keyword).isEmpty then 0 else 1) < 30))=true:=by rfl)
  (hline:(apos.endLine == cpos.line)=true:=by rfl) (hs:starEach (e::es) X.env=(false,eval e X.env)::starEach es X.env:=by rfl) (hplain:(backTo cpos (starEach es X.env)).any (·.1)=false:=by rfl) :
  PE X (.Call (.Attribute o name apos) (e::es) [] cpos) (tBM X.K T r to t):=by
 intro pins s σ H Q I h
 refine wpAny_Call_method_late hbase hfew hline rfl (thn (ho pins s σ H _ I h) fun v s1 ⟨x,H1,I1,r1,ty,q1⟩=>?_)
 obtain ⟨h1,h2⟩:=EZ I1 r1 ty
 refine ⟨T,id,pa,slot,hty,h1,h2,?_⟩
 have hA:=ha cpos pins s1 σ H1 _ I1 q1
 rw [hs] at hA ⊢
 refine Calls.callWith_builtin (by show (false || (backTo cpos (starEach es X.env)).any (·.1))=false;rw [hplain] <;> rfl) (Calls.evalArgs_plain ?_)
 exact thn hA fun us s2 ⟨vs,H2,I2,r2,q2⟩=>hm pins s2 σ H2 x vs v us Q I2 r1 r2 q2
end
end L2
namespace L2
open PySem PySem.Spec PyProof.Rows
noncomputable def MtM (X:Cx) (id:String) (r:V->List V->Hp->VK->Prop):Prop:=
 ∀ (pins:List (Addr × Obj)) (s:Shared) (σ:St) (H:Hp) (x:V) (xs:List V) (v:Value) (us:List Value) (Q:VK),Inv X pins σ H s->aK x v->aM xs us->r x xs H Q ->
  wpAny (model X.prog X.w) X.A (call (.builtin id) (v::us)) (EP X pins σ Q) X.xe s
theorem aM.one:∀ {x:V} {us:List Value},aM [x] us->∃ u,us=[u]/\aK x u
 | _,_,.cons r .nil=>⟨_,rfl,r⟩
theorem aM.eraseIdx:∀ {xs:List V} {us:List Value} (i:Nat),aM xs us->aM (xs.eraseIdx i) (us.eraseIdx i)
 | _,_,_,.nil=>.nil
 | _,_,0,.cons _ t=>t
 | _,_,i+1,.cons r t=>.cons r (aM.eraseIdx i t)
theorem mH {α:Type}:∀ (l:List α) (i:Nat),(l.eraseIdx i).length<=l.length
 | [],_=>Nat.le_refl _
 | _::_,0=>Nat.le_succ _
 | _::r,i+1=>Nat.succ_le_succ (mH r i)
section
variable {X:Cx} {pins:List (Addr × Obj)} {σ:St} {H:Hp} {s:Shared} {l b:Addr} {xs ys zs:List V}
theorem Inv.lset {its its':List Value} {n:Nat} {f:Array Value->Array Value} {t':Nat} (I:Inv X pins σ H s) (hH:H l=some (.lst xs))
  (e:s.heap.get? l=some { cls:=.type "list", data:=.seq its.toArray n }) (hf:f its.toArray=its'.toArray) (hv:aM ys its') (hz:ys.length<=sizeLine) :
  Inv X pins σ (upd H l (.lst ys)) { s with heap:=s.heap.update l (Obj.mapSeq f),toks:=t' }:=by
 have q:=PySem.IsL.update e f
 rw [hf] at q
 refine I.write (x:=l) (e:=l) (by rw [hH];exact trivial) (.inl rfl) (fun b' u hb hu=>(Heap.get?_update_other s.heap (Obj.mapSeq f) (Ne.symm hb)).trans hu) ⟨_,q⟩ ?_
 exact ⟨hz,its',_,hv,q⟩
theorem Inv.lnew {its:List Value} {t':Nat} (I:Inv X pins σ H s) (hv:aM ys its) (hz:ys.length<=sizeLine) :
  Inv X pins σ (upd H s.heap.objs.size (.lst ys)) { s with heap:=s.heap.push { cls:=.type "list", data:=.seq its.toArray },toks:=t' }:=
 I.laid (fun _ _ q=>Heap.get?_push_of_some _ q) (Nat.le_refl _) ⟨hz,its,0,hv,Heap.get?_push_size _ rfl⟩
theorem Inv.fresh (I:Inv X pins σ H s):H s.heap.objs.size=none:=I.hok.fresh (Nat.le_refl _)
theorem Inv.lstM (I:Inv X pins σ H s) (hH:H l=some (.lst xs)):xs.length<=sizeLine/\∃ (its:List Value) (n:Nat),aM xs its/\xs.length=its.length/\s.heap.get? l=some { cls:=.type "list", data:=.seq its.toArray n }:=by
 obtain ⟨z,its,n,r,e⟩:=I.hok l _ hH
 exact ⟨z,its,n,r,r.length,e⟩
theorem wX {n:Nat} (h:n<=sizeLine):Builtin.List.listTooLong n=false:=by
 unfold Builtin.List.listTooLong
 exact decide_eq_false (by omega)
end
section
variable {X:Cx}
noncomputable def Ar:V->List V->Hp->VK->Prop:=fun x vs H Q=>∃ l xs y,x = .ref l/\vs=[y]/\H l=some (.lst xs)/\xs.length < sizeLine/\Q .non (upd H l (.lst (xs++[y])))
theorem mI:MtM X "list.append" Ar:=by
 intro pins s σ H x vs v us Q I rx rv h
 obtain ⟨l,xs,y,rfl,rfl,hH,hz,q⟩:=h
 cases rx
 obtain ⟨u,rfl,ru⟩:=rv.one
 obtain ⟨z,its,n,r,hl,e⟩:=I.lstM hH
 refine call_meets F.slot_list_append ⟨_,e,rfl⟩ F.entry_list_append (F.args_list_append_2 _ _) (PySem.list_append l its.toArray n u (by rw [List.size_toArray];omega)) ⟨e,?_⟩
 refine ⟨.non,_,I.lset (its':=its++[u]) hH e (by simp) (r.append (.cons ru .nil)) ?_,rfl,q⟩
 rw [List.length_append,List.length_singleton]
 omega
noncomputable def As:V->List V->Hp->VK->Prop:=fun x vs H Q=>∃ l b xs zs,x = .ref l/\vs=[.ref b]/\H l=some (.lst xs)/\H b=some (.lst zs)/\xs.length+zs.length<=sizeLine/\Q .non (upd H l (.lst (xs++zs)))
theorem uN:MtM X "list.extend" As:=by
 intro pins s σ H x vs v us Q I rx rv h
 obtain ⟨l,b,xs,zs,rfl,rfl,hH,hB,hz,q⟩:=h
 cases rx
 obtain ⟨u,rfl,ru⟩:=rv.one
 cases ru
 obtain ⟨z,its,n,r,hl,e⟩:=I.lstM hH
 obtain ⟨z2,its2,n2,r2,hl2,e2⟩:=I.lstM hB
 have hsz:its.toArray.size+its2.toArray.size<=sizeLine:=by rw [List.size_toArray,List.size_toArray];omega
 have hlong:¬ (!its.toArray.isEmpty && Builtin.List.listTooLong (its.toArray.size+its2.toArray.size))=true:=by
  rw [wX hsz,Bool.and_false]
  exact Bool.false_ne_true
 refine call_meets F.slot_list_extend ⟨_,e,rfl⟩ F.entry_list_extend (F.args_list_extend_2 _ _)
  (AutoSeq1.list_extend_list_list_0 l its.toArray n b its2.toArray n2 hlong (by rw [List.size_toArray];omega) (by omega)) ⟨e,e2,?_⟩
 refine ⟨.non,_,I.lset (its':=its++its2) hH e (by simp) (r.append r2) ?_,rfl,q⟩
 rw [List.length_append]
 omega
noncomputable def E5:V->List V->Hp->VK->Prop:=fun x vs H Q=>∃ l xs i k y,x = .ref l/\vs=[.int i]/\H l=some (.lst xs)/\-(2 ^ 63)<=i/\i < 2 ^ 63/\seqIndex? i xs.length=some k/\xs[k]?=some y/\Q y (upd H l (.lst (xs.eraseIdx k)))
theorem wY:MtM X "list.pop" E5:=by
 intro pins s σ H x vs v us Q I rx rv h
 obtain ⟨l,xs,i,k,y,rfl,rfl,hH,h1,h2,hk,hy,q⟩:=h
 cases rx
 obtain ⟨u,rfl,ru⟩:=rv.one
 obtain ⟨t,rfl⟩:=ru
 obtain ⟨z,its,n,r,hl,e⟩:=I.lstM hH
 obtain ⟨w,hw,rw'⟩:=r.get hy
 refine call_meets F.slot_list_pop ⟨_,e,rfl⟩ F.entry_list_pop (F.args_list_pop_2 _ _)
  (MeetsSeq.list_pop_at l its.toArray n i t k w (fitsIndex_both h1 h2) (by rw [List.size_toArray,<-hl];exact hk) (by rw [<-Array.getElem?_toList];exact hw) (by rw [List.size_toArray];omega)) ⟨e,?_⟩
 refine ⟨y,_,I.lset (its':=its.eraseIdx k) hH e ?_ (r.eraseIdx k) ?_,rw',q⟩
 ·show its.toArray.eraseIdxIfInBounds k=(its.eraseIdx k).toArray
  rw [List.eraseIdxIfInBounds_toArray]
 ·have:=mH xs k
  omega
noncomputable def L5:R2:=fun x y H Q=>∃ l b xs zs,x = .ref l/\y = .ref b/\H l=some (.lst xs)/\H b=some (.lst zs)/\xs.length+zs.length<=sizeLine/\∀ p,H p=none->Q (.ref p) (upd H p (.lst (xs++zs)))
theorem E6:OpR X (binaryOp .Add) L5:=by
 intro pins s σ H x y v u Q I rx ry h
 obtain ⟨l,b,xs,zs,rfl,rfl,hH,hB,hz,q⟩:=h
 cases rx
 cases ry
 obtain ⟨z,its,n,r,hl,e⟩:=I.lstM hH
 obtain ⟨z2,its2,n2,r2,hl2,e2⟩:=I.lstM hB
 refine PySem.P.add_list e e2 ?_ (by rw [List.size_toArray,List.size_toArray];omega)
 have ea:its.toArray++its2.toArray=(its++its2).toArray:=by simp
 rw [ea]
 exact ⟨.ref _,_,I.lnew (t':=s.toks) (r.append r2) (by rw [List.length_append];omega),rfl,q _ I.fresh⟩
end
end L2
namespace Att
open PySem PySem.W PySem.Calls PyProof.Rows
theorem jQ {P:Params} {h:Heap}:∀ (ns:List Int) (vs:List Value),WellAll P h vs (ns.map WData.int)->IntsAre vs ns:=by
 intro ns
 induction ns with
 | nil=>
  intro vs w
  rw [List.map_nil] at w
  cases w
  exact .nil
 | cons n ns ih=>
  intro vs w
  rw [List.map_cons] at w
  cases w with
  | cons a b=>
   cases a
   exact .cons _ _ (ih _ b)
theorem uO {l:OpenLaw} {n:Nat} (hn:l.most=some n) {P:Params} {h:Heap} {args:List WData} {vals:List Value}
  (hpre:l.row.toRowW.claim.pre args=true) (hwl:WellAll P h vals args) :
  ∃ a vs ns,vals=[Value.ref a]/\args=[WData.list (ns.map WData.int)]/\h.get? a=some { cls:=.type "list", data:=.seq vs.toArray }/\IntsAre vs ns/\ns.length<=n:=by
 have hsh:WShape.hasAll [] args [.list .int]=true:=(pre_splitW hpre).1
 have hc:l.pre.holds [] { args:=args }=true:=(pre_splitW hpre).2
 obtain ⟨d,r,rfl,h1,h2⟩:=hasAllW_cons hsh
 obtain rfl:=hasAllW_nil h2
 obtain ⟨xs,rfl,h3⟩:=hasW_list h1
 obtain ⟨ns,rfl⟩:=items_int h3
 have hlen:ns.length<=n:=by
  unfold OpenLaw.pre at hc
  have h4:(WTm.not (.lt (.lit (.int (n:Int))) (.len (.arg 0)))).holds [] { args:=[.list (ns.map .int)] }=true:=by
   have h4:=(holds_andW hc).1
   rw [hn] at h4
   exact h4
  have h5:=condW_of h4 (w_not (w_lt w_lit (w_len_list (w_arg rfl))))
  rw [List.length_map] at h5
  refine Nat.le_of_not_lt fun q=>?_
  have q':(n:Int) < ((ns.length:Nat):Int):=by omega
  first
   | (rw [decide_eq_true q'] at h5;exact absurd h5 (by decide))
   | (simp at h5;omega)
 cases hwl with
 | cons w1 w2=>
  cases w2
  cases w1 with
  | list ho hall=>exact ⟨_,_,ns,rfl,rfl,ho,jQ ns _ hall,hlen⟩
theorem uQ (l:OpenLaw) (args:List WData):l.row.toRowW.claim.post args (.bool true) args=true:=
 postW_of (r:=l.row.toRowW) (X:=(true == true))
  (show WShape.has [] (.bool true) .bool=true by first | rfl | decide | simp [WShape.has,WShape.arms,WShape.armsAll])
  (show (WTm.eq .res (.lit (.bool true))).value [] { args:=args,res:=some (.bool true),after:=args }=some (.bool (true == true)) from w_eq_bool (w_res rfl) w_lit) rfl
theorem attach_call {l:OpenLaw} {n:Nat} {q:Program} {loose:List Str} {XP:(Str->Option Value)->Heap->Prop} {YP:World->Heap->Prop} {d:DefRec}
  (hn:l.most=some n) (hdf:d.params.defaults=[])
  (call:∀ (w:World) (s₀ s₁:Shared) (mg mb:Str->Option Value) (fa:Addr) (o:Obj) (pm cd doc:Value) (a:Addr) (vs:List Value) (ns:List Int),
   Ground q loose [] XP w s₀ mg mb s₁.heap->YP w s₁.heap ->
   s₁.heap.get? fa=some o->o.data = .func (docDef d.name d.params d.body d.scope pm cd doc)->s₁.heap.CodeRec cd d.name->mg d.name=some (.ref fa) ->
   s₁.heap.get? a=some { cls:=.type "list", data:=.seq vs.toArray }->IntsAre vs ns->ns.length<=n->s₁.gens=#[] ->
   codeAny (model l.prog w) callerA (.call (.ref fa) ⟨[.ref a],[]⟩) (fun r s'=>r = .ok (.ret (.bool true))/\OldK s₁.heap s'.heap/\s'.os=s₁.os/\AllBare s'.gens) s₁) :
  WalkO q loose XP YP l.row.toRowW d [] (fun f vs=>PySem.call f vs):=by
 intro w s₀ s₁ mg mb G Y fa o pm cd doc dV kV ho hd hcd hD hmg hg args vals as hpre hlay hrd hwl hlo
 obtain rfl:dV = .none:=Dflts.none hD hdf
 obtain rfl:kV = .none:=Dflts.noKw hD
 obtain ⟨a,vs,ns,rfl,rfl,hobj,hints,hlen⟩:=uO hn hpre hwl
 refine enter_call (codeAny_mono (call w s₀ s₁ mg mb fa o pm cd doc a vs ns G Y ho (fd_plain hd) hcd hmg hobj hints hlen hg) fun r s' hq=>?_)
 obtain ⟨rfl,h2,h3,h4⟩:=hq
 exact ⟨.inl ⟨.bool true,.bool true,[],rfl,fun _=>rfl,.bool true,uQ l _,fun _=>⟨List.Pairwise.nil,fun _ hm=>(nomatch hm)⟩⟩,h2,h3,h4⟩
end Att
namespace L2
open PySem PySem.Spec PyProof.Rows
theorem i6:∀ {vs:List Value} {ns:List Int},IntsAre vs ns->aM (ns.map V.int) vs
 | _,_,.nil=>.nil
 | _,_,.cons n t h=>.cons ⟨t,rfl⟩ (i6 h)
noncomputable def JD (H:Hp):Prop:=∀ b,H b=none\/∃ o xs,H b=some (.frz o (.lst xs))
theorem wZ {P:Program} {w:World} {K:PySem.W.Frag} {mg mb:Str->Option Value} {CX:CXT} {k:Nat} {fa a:Addr} {fd:FuncData} {x:Str} {sp:Sp} {s₁:Shared} {vs:List Value} {ns:List Int}
  (KX:K.In s₁.heap) (hns:s₁.heap.Ns mainGlobals mg) (hb:s₁.heap.Ns builtinsNs mb) (hbb:∀ x:Str,x ≠ "__name__"->mb x=bootBuiltins x) (hlim:s₁.heap.NoLimit) (hg:s₁.gens=#[])
  (ha:s₁.heap.get? a=some { cls:=.type "list", data:=.seq vs.toArray }) (hi:IntsAre vs ns) (hl:ns.length<=sizeLine) (hr:Room k callerA)
  (F:∀ base:Heap,K.In base->base.Ns mainGlobals mg->FnOk P w K mg base CX k fa fd [x] sp) (hbind:∀ (s:Shared) (u:Value),BindsTo s fd ⟨[u],[]⟩ [(x,u)])
  (hsp:∀ H:Hp,JD H->SqL K H a (ns.map V.int)->sp [.ref a] H (fun v _=>v = .bl true) fun _ _ _=>False)
  (hCX:∀ H e s',CX [] H s₁ (fun _ _ _=>False) e s'->False) :
  codeAny (model P w) callerA (.call (.ref fa) ⟨[.ref a],[]⟩) (fun r s'=>r = .ok (.ret (.bool true))/\OldK s₁.heap s'.heap/\s'.os=s₁.os/\AllBare s'.gens) s₁:=by
 have rv:=i6 hi
 have lenV:=hi.length
 have core:∀ H:Hp,JD H->SqL K H a (ns.map V.int)->HOk P w H s₁.heap->(∀ b,H b ≠ none->b=a)->(H a ≠ none->K.lookup a=none) ->
   codeAny (model P w) callerA (.call (.ref fa) ⟨[.ref a],[]⟩) (fun r s'=>r = .ok (.ret (.bool true))/\OldK s₁.heap s'.heap/\s'.os=s₁.os/\AllBare s'.gens) s₁:=by
  intro H hO hS hok hA hK
  have base_of:∀ {b:Addr} {o:Obj},s₁.heap.get? b=some o->H b=none->(nG s₁.heap H).get? b=some o:=fun e n=>wo e n
  have noA:∀ {b:Addr} {o:Obj} {es:Array DictEntry} {ep:Nat},s₁.heap.get? b=some o->o.data = .dict es ep->H b=none:=fun {b o es ep} e d=>by
   cases q:H b with
   | none=>rfl
   | some u=>
    have e':b=a:=hA b (by rw [q];simp)
    subst e'
    rw [ha] at e;cases e
    have d':Data.seq vs.toArray _=Data.dict es ep:=d
    cases d'
  have nsK:∀ {b:Addr} {m:Str->Option Value},s₁.heap.Ns b m->(nG s₁.heap H).Ns b m:=fun {b m} ⟨o,es,ep,e,d,r⟩=>⟨o,es,ep,base_of e (noA e d),d,r⟩
  have hKb:K.In (nG s₁.heap H):=fun b o e=>base_of (KX b o e) (by
   cases q:H b with
   | none=>rfl
   | some u=>
    have e':b=a:=hA b (by rw [q];simp)
    subst e'
    rw [hK (by rw [q];simp)] at e;cases e)
  have hM:Mod K mg (nG s₁.heap H):=⟨hKb,nsK hns,⟨mb,nsK hb,hbb⟩,let ⟨mc,h1,h2⟩:=hlim;⟨mc,nsK h1,h2⟩⟩
  have e0:Env0 P w K mg (nG s₁.heap H) callerA [] s₁ H:=⟨rfl,hM,fun b o e=>zY e,Nat.le_of_eq (uC _ _),trivial,fun b hb=>absurd (show b ∈ ([]:List Addr) from hb) (by simp),hok,.of_eq hg⟩
  refine codeAny_mono ((F _ hKb (nsK hns)).run callerA [] s₁ H ⟨[.ref a],[]⟩ [.ref a] [.ref a] _ _ hr e0 (hbind s₁ (.ref a)) (.cons rfl .nil) (hsp H hO hS)) fun r s' h=>?_
  cases r with
  | error e=>exact (hCX H e s' h).elim
  | ok fl=>
   cases fl with
   | next=>exact False.elim h
   | brk=>exact False.elim h
   | cont=>exact False.elim h
   | ret u=>
    obtain ⟨v,H',os,bare,un,hok',r',q⟩:=h
    have q':v = .bl true:=q
    subst q'
    obtain rfl:u=Value.bool true:=r'
    refine ⟨rfl,OldK.of_keep fun b o e=>?_,os,bare⟩
    cases q:H b with
    | none=>exact un.keep b o e q (by intro z;exact absurd (show b ∈ ([]:List Addr) from z) (by simp)) (by simp)
    | some u=>
     rcases hO b with z | ⟨ob,xs,z⟩
     ·rw [q] at z;cases z
     ·have z2:=un.frzs b ob _ z
      obtain ⟨e1,_⟩:=hok b _ z
      obtain ⟨e2,_⟩:=hok' b _ z2
      rw [e] at e1;cases e1
      exact e2
 cases hk:K.lookup a with
 | some o=>
  have e:=KX a o hk
  rw [ha] at e
  cases e
  refine core (fun _=>none) (fun _=>.inl rfl) (.inr ⟨_,vs.toArray,_,hk,rfl,rfl,rfl,by rw [List.size_toArray,lenV];exact hl,by simpa using rv⟩) (fun b u z=>by have z':(none:Option HO)=some u:=z;cases z') (fun b z=>absurd rfl z) fun z=>absurd rfl z
 | none=>
  refine core (fun b=>if b=a then some (.frz { cls:=.type "list", data:=.seq vs.toArray } (.lst (ns.map V.int))) else none) (fun b=>?_) (.inl (.inr ⟨{ cls:=.type "list", data:=.seq vs.toArray },if_pos rfl⟩)) (fun b u z=>?_) (fun b z=>?_) fun _=>hk
  ·by_cases hb:b=a
   ·exact .inr ⟨_,_,if_pos hb⟩
   ·exact .inl (if_neg hb)
  ·by_cases hb:b=a
   ·have z':=(if_pos hb).symm.trans z
    cases z'
    subst hb
    exact ⟨ha,by rw [List.length_map];exact hl,vs,_,rv,ha⟩
   ·have z':=(if_neg hb).symm.trans z
    cases z'
  ·by_cases hb:b=a
   ·exact hb
   ·exact absurd (if_neg hb) z
end L2
namespace L2
open PySem PySem.Spec PyProof.Rows
noncomputable def eF (s:Stmt):Arguments:=match s with
 | .FunctionDef _ a _ _ _ _ _ _ _ _=>a
 | _=>{ posonlyargs:=[],args:=[],vararg:=none,kwonlyargs:=[],kw_defaults:=[],kwarg:=none,defaults:=[] }
noncomputable def cf (s:Stmt):List Stmt:=match s with
 | .FunctionDef _ _ b _ _ _ _ _ _ _=>b
 | _=>[]
noncomputable def bb (s:Stmt):Scope:=match s with
 | .FunctionDef _ _ _ _ _ _ sc _ _ _=>sc
 | _=>{ kind:=.function,names:=[],isGenerator:=false,isCoroutine:=false }
noncomputable abbrev CX0:CXT:=fun _ _ _ _ _ _=>False
noncomputable abbrev E0:XK:=fun _ _ _=>False
theorem JE {X:Cx}:q8 CX0 X E0:=fun _ _ _ _ _ _ _ h=>h.elim
structure Fun (K:PySem.W.Frag) (x qual:Str) (st:Stmt) (f:Addr) (fd:FuncData):Prop where
 ex:∃ (oc:Value) (od:Option Addr) (kV doc pm:Value) (an:Option Addr) (cdv ct:Value) (osl:Array (Option Value)),
  fd=PySem.W.fnOf x qual (eF st) (cf st) (bb st) .none kV doc pm an cdv ct/\K.lookup f=some ⟨oc,od,.func fd,osl⟩/\PySem.W.codeIn K cdv qual=true
 kp:PySem.W.keepIn K (.ref f)=true
section
variable {P:Program} {w:World} {K:PySem.W.Frag} {mg:Str->Option Value} {base:Heap}
theorem Fun.ok {x qual:Str} {st:Stmt} {f:Addr} {fd:FuncData} {N ps:List Str} {k:Nat} {sp:Sp} (F:Fun K x qual st f fd) (S:FnScope N ps (bb st)) (len:∀ vs H Q E,sp vs H Q E->vs.length=ps.length)
  (hbody:∀ (cdv:Value) (A:Around) (outer:List Env) (s:Shared) (H:Hp) (vs:List V) (Q:VK) (E:XK),Room k (A.deeper (envOfC qual (bb st) s.heap.objs.size f cdv))->sp vs H Q E ->
   ∃ t,PSs (rb CX0 P w K mg base N qual (bb st) f cdv A outer s H E).nox (cf st) t/\t { nx:=fun _ H'=>Q .non H',rt:=Q } (gF N vs) H):FnOk P w K mg base CX0 (k+1) f fd ps sp:=by
 obtain ⟨oc,od,kV,doc,pm,an,cdv,ct,osl,rfl,lk,hcd⟩:=F.ex
 refine Jx lk hcd S len fun A outer s H vs Q E hr hsp=>?_
 obtain ⟨t,h,q⟩:=hbody cdv A outer s H vs Q E hr hsp
 exact ⟨t,h.nox,q⟩
theorem Fun.binds {x qual:Str} {st:Stmt} {f:Addr} {fd:FuncData} {ps:List Str} (F:Fun K x qual st f fd)
  (h:∀ (kV doc pm:Value) (an:Option Addr) (cdv ct:Value) (us:List Value),us.length=ps.length->bindArgs (PySem.W.fnOf x qual (eF st) (cf st) (bb st) .none kV doc pm an cdv ct) ⟨us,[]⟩=pure (ps.zip us)):mB K fd ps []:=by
 obtain ⟨oc,od,kV,doc,pm,an,cdv,ct,osl,rfl,lk,hcd⟩:=F.ex
 exact .all (h kV doc pm an cdv ct)
theorem E7 {x qual:Str} {st:Stmt} {f:Addr} {oc:Value} {od an:Option Addr} {osl:Array (Option Value)} {kV doc pm cdv ct:Value} (l:K.lookup f=some ⟨oc,od,.func (PySem.W.fnOf x qual (eF st) (cf st) (bb st) .none kV doc pm an cdv ct),osl⟩)
  (c:PySem.W.codeIn K cdv qual=true) (k:PySem.W.keepIn K (.ref f)=true):Fun K x qual st f (PySem.W.fnOf x qual (eF st) (cf st) (bb st) .none kV doc pm an cdv ct):=⟨⟨oc,od,kV,doc,pm,an,cdv,ct,osl,rfl,l,c⟩,k⟩
end
theorem uR {n:Nat} (h:n<=1000):n < sizeLine:=Nat.lt_of_le_of_lt h (by decide)
end L2
namespace L2
open PySem PySem.Spec PyProof.Rows
noncomputable def nR (ifs:List Expr) (env:Env):Sem Bool:=
 forIn ifs true fun c r=>if r=true then do let ok <-isTrue c env (eval c env);pure (ForInStep.yield ok) else pure (ForInStep.yield r)
theorem Au {M:Model} {A:Around} {E:Value->Shared->Prop} {s:Shared} {elt tg iter:Expr} {ifs:List Expr} {gens:List Comprehension} {scope:Scope} {pos:Pos} {d:Nat} {it acc:Value} {env:Env} {Q:Fin->Shared->Prop}
  (hg:gens[d]?=some ⟨tg,iter,ifs,0⟩)
  (h:wpAny M A (pyNext it) (fun r s1=>match r with
   | none=>Q (.done .next) s1
   | some v=>wpAny M A (letOwnedTupleGo tg it v) (fun _ s2=>wpAny M A (assign tg env v) (fun _ s3=>wpAny M A (nR ifs env) (fun ok s4=>if ok=true then (match gens[d+1]? with
     | none=>wpAny M A (eval elt env) (fun x s5=>wpAny M A (call (.builtin "list.append") [acc,x]) (fun _ s6=>Q (.again (.compLoop (.ListComp elt gens scope pos) d it acc env)) s6) E s5) E s4
     | some g'=>g'.is_async=0/\wpAny M A (eval g'.iter env) (fun x s5=>wpAny M A (foldedSetIterable g'.iter env x) (fun x' s6=>wpAny M A (pyIter x') (fun it' s7=>
       wpAny M A (runOwn (.compStart (.ListComp elt gens scope pos) (d+1) it' acc env) env) (fun _ s8=>Q (.again (.compLoop (.ListComp elt gens scope pos) d it acc env)) s8) E s7) E s6) E s5) E s4)
    else Q (.again (.compLoop (.ListComp elt gens scope pos) d it acc env)) s4) E s3) E s2) E s1) E s) :
  wpAny M A (compTurn (.ListComp elt gens scope pos) d it acc env) Q E s:=by
 unfold compTurn
 simp only [hg]
 refine wpAny_bind (wpAny_standAt ?_)
 show wpAny M A (pyNext it >>= _) Q E s
 refine wpAny_bind (wpAny_mono h (fun r s1 h1=>?_) fun _ _ x=>x)
 cases r with
 | none=>exact wpAny_pure h1
 | some v=>
  refine wpAny_bind (wpAny_mono h1 (fun _ s2 h2=>?_) fun _ _ x=>x)
  refine wpAny_bind (wpAny_mono h2 (fun _ s3 h3=>?_) fun _ _ x=>x)
  refine wpAny_bind (wpAny_mono h3 (fun ok s4 h4=>?_) fun _ _ x=>x)
  cases ok with
  | false=>exact wpAny_pure h4
  | true=>
   simp only [if_true] at h4 ⊢
   cases hn:gens[d+1]? with
   | none=>
    rw [hn] at h4
    refine wpAny_bind (wpAny_bind (wpAny_mono h4 (fun x s5 h5=>?_) fun _ _ x=>x))
    exact wpAny_bind (wpAny_mono h5 (fun _ s6 h6=>wpAny_pure (wpAny_pure h6)) fun _ _ x=>x)
   | some g'=>
    rw [hn] at h4
    obtain ⟨ha,h4⟩:=h4
    refine wpAny_bind (wpAny_mono h4 (fun x s5 h5=>wpAny_bind (wpAny_standAt ?_)) fun _ _ x=>x)
    rw [ha]
    show wpAny M A (foldedSetIterable g'.iter env x >>= _) Q E s5
    refine wpAny_bind (wpAny_mono h5 (fun x' s6 h6=>?_) fun _ _ x=>x)
    refine wpAny_bind (wpAny_holding (wpAny_mono h6 (fun it' s7 h7=>?_) fun _ _ x=>x))
    exact wpAny_bind (wpAny_mono h7 (fun _ s8 h8=>wpAny_pure h8) fun _ _ x=>x)
end L2
namespace L2
open PySem PySem.Spec PyProof.Rows
noncomputable def bQ (cells:List (Str × Addr)):List (Str × NameKind)->List (Str × Addr)->List (Str × Addr)
 | [],acc=>acc
 | (n,k)::r,acc=>if k == .free then bQ cells r ((n,(cells.lookup n).getD 0)::acc) else bQ cells r acc
theorem gR {env:Env}:∀ (names:List (Str × NameKind)) (acc:List (Str × Addr)),(∀ y ∈ names,y.2 = .free->∃ c,env.cells.lookup y.1=some c) ->
  (forIn names acc fun (x:Str × NameKind) (cs:List (Str × Addr))=>(match x with | (name,kind)=>if kind == .free then (do let a <-cellOf env name;pure (ForInStep.yield ((name,a)::cs))) else pure (ForInStep.yield cs):Sem (ForInStep (List (Str × Addr)))))
   = (pure (bQ env.cells names acc):Sem (List (Str × Addr)))
 | [],acc,_=>by rw [List.forIn_nil];rfl
 | (n,k)::r,acc,h=>by
  rw [List.forIn_cons]
  have hr:∀ y ∈ r,y.2 = .free->∃ c,env.cells.lookup y.1=some c:=fun y hy=>h y (List.mem_cons_of_mem _ hy)
  cases hk:(k == NameKind.free) with
  | true=>
   obtain ⟨c,hc⟩:=h (n,k) List.mem_cons_self (by simpa using hk)
   have e:cellOf env n=pure c:=by unfold cellOf;rw [show env.cells.lookup n=some c from hc]
   simp only [hk,if_true,e,pure_bind]
   rw [gR r _ hr]
   conv=>rhs;rw [bQ]
   simp only [hk,if_true]
   rw [show env.cells.lookup n=some c from hc]
   rfl
  | false=>
   simp only [hk,Bool.false_eq_true,if_false,pure_bind]
   rw [gR r _ hr]
   conv=>rhs;rw [bQ]
   simp only [hk,Bool.false_eq_true,if_false]
theorem tz {env:Env} {scope:Scope} (h:∀ y ∈ scope.names,y.2 = .free->∃ c,env.cells.lookup y.1=some c):closureFor scope env=pure (bQ env.cells scope.names []):=by
 have e:=gR (env:=env) scope.names [] h
 unfold closureFor
 refine Eq.trans ?_ e
 first
  | rfl
  | (rw [bind_pure])
  | (simp only [bind_pure])
theorem i7 {cells:List (Str × Addr)}:∀ {names:List (Str × NameKind)} {acc:List (Str × Addr)} {x:Str} {c:Addr},(x,c) ∈ bQ cells names acc->(x,c) ∈ acc\/((x,NameKind.free) ∈ names/\c=(cells.lookup x).getD 0)
 | [],_,_,_,h=>.inl h
 | (n,k)::r,acc,x,c,h=>by
  unfold bQ at h
  split at h
  ·rename_i hk
   have hk':k = .free:=by simpa using hk
   rcases i7 h with e | ⟨e,q⟩
   ·rcases List.mem_cons.mp e with e | e
    ·cases e;exact .inr ⟨by rw [hk'];exact List.mem_cons_self,rfl⟩
    ·exact .inl e
   ·exact .inr ⟨List.mem_cons_of_mem _ e,q⟩
  ·rcases i7 h with e | ⟨e,q⟩
   ·exact .inl e
   ·exact .inr ⟨List.mem_cons_of_mem _ e,q⟩
theorem fB {x:Str}:∀ {l:List (Str × Addr)},(∃ c,(x,c) ∈ l)->∃ c,l.lookup x=some c
 | [],⟨_,h⟩=>nomatch h
 | (n,c)::r,⟨c',h⟩=>by
  rw [List.lookup_cons]
  cases hb:x == n with
  | true=>exact ⟨c,rfl⟩
  | false=>
   rcases List.mem_cons.mp h with e | e
   ·cases e;simp at hb
   ·exact fB ⟨c',e⟩
theorem gg {cells:List (Str × Addr)} {x:Str}:∀ {names:List (Str × NameKind)} {acc:List (Str × Addr)},(x,NameKind.free) ∈ names\/(∃ c,(x,c) ∈ acc)->∃ c,(x,c) ∈ bQ cells names acc
 | [],_,h=>h.elim (fun e=>nomatch e) id
 | (n,k)::r,acc,h=>by
  unfold bQ
  split
  ·rename_i hk
   refine gg ?_
   rcases h with h | ⟨c,h⟩
   ·rcases List.mem_cons.mp h with e | e
    ·cases e;exact .inr ⟨_,List.mem_cons_self⟩
    ·exact .inl e
   ·exact .inr ⟨c,List.mem_cons_of_mem _ h⟩
  ·rename_i hk
   refine gg ?_
   rcases h with h | ⟨c,h⟩
   ·rcases List.mem_cons.mp h with e | e
    ·cases e;exact absurd rfl hk
    ·exact .inl e
   ·exact .inr ⟨c,h⟩
theorem cg:∀ (names:List (Str × NameKind)) (n:Nat) (acc:List (Str × Addr)),cellsFrom n names acc=cellsFrom n names []++acc
 | [],_,_=>rfl
 | (y,k)::r,n,acc=>by
  unfold cellsFrom
  split
  ·rw [cg r (n+1) ((y,n)::acc),cg r (n+1) [(y,n)],List.append_assoc];rfl
  ·exact cg r n acc
theorem dE:∀ (names:List (Str × NameKind)) (n:Nat) (acc:List (Str × Addr)) (x:Str) (c:Addr),(x,c) ∈ cellsFrom n names acc->(x,c) ∈ acc\/(x,NameKind.cell) ∈ names
 | [],_,_,_,_,h=>.inl h
 | (y,k)::r,n,acc,x,c,h=>by
  unfold cellsFrom at h
  split at h
  ·rename_i hk
   have hk':k = .cell:=by simpa using hk
   rcases dE r _ _ x c h with e | e
   ·rcases List.mem_cons.mp e with e | e
    ·cases e;exact .inr (by rw [hk'];exact List.mem_cons_self)
    ·exact .inl e
   ·exact .inr (List.mem_cons_of_mem _ e)
  ·rcases dE r _ _ x c h with e | e
   ·exact .inl e
   ·exact .inr (List.mem_cons_of_mem _ e)
noncomputable def mt (sc:Scope) (n:Str) (k:NameKind):NameKind:=if (k == .free && sc.kind == .function && sc.names.lookup n == some .cell) then .cell else k
noncomputable def fC (scope sc:Scope):Scope:={ scope with names:=scope.names.map fun y=>(y.1,mt sc y.1 y.2) }
theorem Av (scope:Scope) (env:Env):relabel scope env=fC scope env.scope:=by
 unfold relabel fC
 congr 1
 refine List.map_congr_left fun y _=>?_
 obtain ⟨n,k⟩:=y
 unfold mt
 dsimp only
 show (if (k == NameKind.free && env.scope.kind == ScopeKind.function && List.lookup n env.scope.names == some NameKind.cell)=true then (n,NameKind.cell) else (n,k))=_
 split <;> rfl
theorem fD (sc:Scope) (x:Str):∀ names:List (Str × NameKind),(names.map fun y=>(y.1,mt sc y.1 y.2)).lookup x=(names.lookup x).map (mt sc x)
 | []=>rfl
 | (n,k)::r=>by
  rw [List.map_cons,List.lookup_cons,List.lookup_cons]
  dsimp only
  cases hb:x == n with
  | true=>
   have q:x=n:=by simpa using hb
   subst q;rfl
  | false=>exact fD sc x r
noncomputable def rj (scope:Scope) (C:Addr) (env:Env):Env:=
 { scope:=fC scope env.scope,locals:=C,globals:=env.globals,cells:=cellsFrom (C+1) scope.names (bQ env.cells scope.names []),qual:=env.qual,func:=none,code:=env.code,frame:=env.frame,builtins:=env.builtins }
theorem uS {M:Model} {A:Around} {E:Value->Shared->Prop} {s:Shared} {scope:Scope} {cl:List (Str × Addr)} {env:Env} {Q:Env->Shared->Prop}
  (h:Q { scope:=scope,locals:=s.heap.objs.size,globals:=env.globals,cells:=cellsFrom (s.heap.objs.size+1) scope.names cl,qual:=env.qual,func:=none,code:=env.code,frame:=env.frame,builtins:=env.builtins }
   { s with heap:=pushCells (s.heap.push { cls:=.type "dict", data:=.dict #[] }) scope.names }) :
  wpAny M A (newFunctionEnv scope env.globals cl [] env.qual none .none (some env)) Q E s:=by
 simp only [newFunctionEnv,Option.isSome_some,if_true]
 refine wpAny_bind (wpAny_alloc ?_)
 refine wpAny_bind (wpAny_layCells _ (fun name kind cells=>by cases hkc:kind == NameKind.cell <;> simp [hkc]) _ _ _ _ ?_)
 rw [show ({ s with heap:=s.heap.push { cls:=.type "dict", data:=.dict #[] } }:Shared).heap.objs.size=s.heap.objs.size+1 from Heap.size_push ..]
 simp only [List.forIn_nil]
 first
  | exact wpAny_bind (wpAny_pure (wpAny_pure h))
  | exact wpAny_pure h
noncomputable def w4 (i:Nat):Str:=⟨#[i]⟩
noncomputable def cH:List Nat->List Str->List Str
 | [],N=>N
 | i::hs,N=>cH hs (N.set i (w4 i))
theorem i8:∀ (hs:List Nat) (N:List Str),(cH hs N).length=N.length
 | [],_=>rfl
 | i::hs,N=>by rw [cH,i8 hs,List.length_set]
theorem mJ:∀ (hs:List Nat) (N:List Str) {i:Nat} {x:Str},(cH hs N)[i]?=some x->N[i]?=some x\/∃ j ∈ hs,x=w4 j
 | [],_,_,_,h=>.inl h
 | k::hs,N,i,x,h=>by
  rw [cH] at h
  rcases mJ hs (N.set k (w4 k)) h with e | ⟨j,hj,e⟩
  ·rw [List.getElem?_set] at e
   split at e
   ·split at e
    ·exact .inr ⟨k,List.mem_cons_self,(Option.some.inj e).symm⟩
    ·cases e
   ·exact .inl e
  ·exact .inr ⟨j,List.mem_cons_of_mem _ hj,e⟩
structure CmScope (own:List Str) (hs:List Nat) (N:List Str) (scope sc:Scope):Prop where
 kind:scope.kind = .function
 nd:(cH hs N++own).Nodup
 uniq:(scope.names.map (·.1)).Nodup
 dis:∀ x ∈ cH hs N,scope.names.lookup x ≠ some .local/\scope.names.lookup x ≠ some .cell
 fr:∀ y ∈ scope.names,y.2 = .free->sc.names.lookup y.1=some .cell\/sc.names.lookup y.1=some .free
 hd:∀ i ∈ hs,scope.names.lookup (w4 i)=none
theorem cF:∀ {l:List (Str × NameKind)} {x:Str} {k:NameKind},(l.map (·.1)).Nodup->(x,k) ∈ l->l.lookup x=some k
 | (n,k')::r,x,k,nd,h=>by
  rw [List.map_cons,List.nodup_cons] at nd
  rw [List.lookup_cons]
  rcases List.mem_cons.mp h with e | e
  ·cases e;simp
  ·have ne:(x == n)=false:=by
    cases hb:x == n with
    | false=>rfl
    | true=>
     have q:x=n:=by simpa using hb
     subst q
     exact absurd (List.mem_map.mpr ⟨(x,k),e,rfl⟩) nd.1
   rw [ne]
   exact cF nd.2 e
noncomputable def cxC (X:Cx) (own:List Str) (hs:List Nat) (scope:Scope) (C:Addr) (ex:List Addr) (s:Shared) (H:Hp):Cx where
 prog:=X.prog
 w:=X.w
 K:=X.K
 mg:=X.mg
 base:=X.base
 A:=X.A
 N:=cH hs X.N++own
 s₀:=s
 H₀:=H
 env:=rj scope C X.env
 outer:=X.stack
 stack:=X.stack
 ex:=ex
 fn:=fun x=>scope.names.lookup x == some .cell
 calm:=X.calm
 pn:=[]
 xe:=fun _ _=>False
section
variable {X:Cx} {pins:List (Addr × Obj)} {σ:St} {H:Hp} {s:Shared} {own:List Str} {hs:List Nat} {scope:Scope} {fp:List Addr}
theorem Inv.compStart (I:Inv X pins σ H s) (S:CmScope own hs X.N scope X.env.scope) (hf:∀ b ∈ fp,fA X pins H b) (hfo:∀ b ∈ fp,b < s.heap.objs.size) :
  Inv (cxC X own hs scope s.heap.objs.size fp s H) [] (σ++List.replicate own.length none) H { s with heap:=pushCells (s.heap.push { cls:=.type "dict", data:=.dict #[] }) scope.names }:=by
 have keep:∀ b o,s.heap.get? b=some o->(pushCells (s.heap.push { cls:=.type "dict", data:=.dict #[] }) scope.names).get? b=some o:=fun b o e=>pushCells_keeps _ _ b o (Heap.get?_push_of_some _ e)
 have ok:=cellsFrom_ok scope.names (s.heap.push { cls:=.type "dict", data:=.dict #[] }) (s.heap.objs.size+1) [] ⟨fun _ _ hm=>(nomatch hm),List.Pairwise.nil⟩ (by rw [Heap.size_push];exact Nat.le_refl _)
 rw [Heap.size_push] at ok
 have cells:(rj scope s.heap.objs.size X.env).cells=cellsFrom (s.heap.objs.size+1) scope.names []++bQ X.env.cells scope.names []:=cg _ _ _
 have hasX:∀ x,(x,NameKind.free) ∈ scope.names->∃ c,X.env.cells.lookup x=some c:=fun x h=>I.ok.has x (S.fr (x,.free) h rfl)
 have old:∀ x c,(x,c) ∈ bQ X.env.cells scope.names []->X.env.cells.lookup x=some c/\(x,NameKind.free) ∈ scope.names:=fun x c h=>by
  rcases i7 h with e | ⟨e,q⟩
  ·exact nomatch e
  ·obtain ⟨c',hc⟩:=hasX x e
   rw [hc] at q
   exact ⟨by rw [hc,q];rfl,e⟩
 have oldlt:∀ x c,X.env.cells.lookup x=some c->c < s.heap.objs.size:=fun x c h=>let ⟨_,z⟩:=I.cell x c h;z.lt
 have which:∀ x c,(rj scope s.heap.objs.size X.env).cells.lookup x=some c->((x,c) ∈ cellsFrom (s.heap.objs.size+1) scope.names [])\/(X.env.cells.lookup x=some c/\(x,NameKind.free) ∈ scope.names):=fun x c h=>by
  have m:=PySem.mem_of_lookup h
  rw [cells] at m
  rcases List.mem_append.mp m with e | e
  ·exact .inl e
  ·exact .inr (old x c e)
 have neu:∀ x c,(x,c) ∈ cellsFrom (s.heap.objs.size+1) scope.names []->s.heap.objs.size+1<=c:=fun x c h=>(ok.empty x c h).2
 have noFs:∀ b ∈ fp,b ∉ frs X.stack:=fun b hb z=>by
  rcases List.mem_cons.mp (I.stkSub b z) with e | e
  ·exact (hf b hb).2.1 e
  ·exact (hf b hb).2.2.1 e
 have xok:(cxC X own hs scope s.heap.objs.size fp s H).Ok:=by
  refine ⟨I.ok.mod,S.kind,I.ok.glob,I.ok.blt,Nat.le_refl _,?_,?_,?_,I.ok.hd,I.ok.frames,.inl rfl,?_,I.bs,Nat.le_trans I.ok.bsz I.sz,?_,noFs,I.stack,I.stkFree⟩
  ·intro x y c h1 h2
   rcases which x c h1 with a | ⟨a,_⟩ <;> rcases which y c h2 with b | ⟨b,_⟩
   ·exact name_of_addr ok.apart a b
   ·exact absurd (Nat.lt_of_lt_of_le (oldlt y c b) (Nat.le_of_succ_le (neu x c a))) (Nat.lt_irrefl _)
   ·exact absurd (Nat.lt_of_lt_of_le (oldlt x c a) (Nat.le_of_succ_le (neu y c b))) (Nat.lt_irrefl _)
   ·exact I.ok.inj x y c a b
  ·intro x hx
   have hx':(fC scope X.env.scope).names.lookup x=some .cell\/(fC scope X.env.scope).names.lookup x=some .free:=hx
   have e:=fD X.env.scope x scope.names
   have key:(x,NameKind.cell) ∈ scope.names\/(x,NameKind.free) ∈ scope.names:=by
    cases hl:scope.names.lookup x with
    | none=>rw [hl] at e;rcases hx' with z | z <;> (rw [show (fC scope X.env.scope).names.lookup x=none from e] at z;cases z)
    | some k=>
     have m:=PySem.mem_of_lookup hl
     rw [hl] at e
     cases k with
     | cell=>exact .inl m
     | free=>exact .inr m
     | _=>rcases hx' with z | z <;> (rw [show (fC scope X.env.scope).names.lookup x=_ from e] at z;simp [mt] at z)
   rcases key with h | h
   ·have q:=PySem.W.cellsFrom_some scope.names (s.heap.objs.size+1) (bQ X.env.cells scope.names []) (x:=x) (.inl (cF S.uniq h))
    exact Option.isSome_iff_exists.mp q
   ·obtain ⟨c,hc⟩:=gg (cells:=X.env.cells) (acc:=[]) (.inl h)
    have q:∃ c,(x,c) ∈ (rj scope s.heap.objs.size X.env).cells:=⟨c,by rw [cells];exact List.mem_append_right _ hc⟩
    exact fB q
  ·intro x c hfn hl
   have hfn':scope.names.lookup x=some .cell:=by
    have z:(scope.names.lookup x == some NameKind.cell)=true:=hfn
    simpa using z
   rcases which x c hl with a | ⟨_,b⟩
   ·exact Nat.le_trans (Nat.le_succ _) (neu x c a)
   ·rw [cF S.uniq b] at hfn';cases hfn'
  ·intro b hb
   refine ⟨Nat.ne_of_lt (hfo b hb),fun x c h z=>?_⟩
   rcases which x c h with a | ⟨a,_⟩
   ·exact absurd (Nat.lt_of_lt_of_le (z ▸ hfo b hb) (Nat.le_of_succ_le (neu x c a))) (Nat.lt_irrefl _)
   ·exact (hf b hb).2.2.2.2.1 x c a z
  ·intro b o e hb
   rcases (hf b hb).2.2.2.1 with z | z
   ·exact I.ok.noex b o e z
   ·have h1:=Heap.lt_size e
    exact absurd (Nat.lt_of_lt_of_le h1 (Nat.le_trans I.ok.bsz z)) (Nat.lt_irrefl _)
 have m0:(pushCells (s.heap.push { cls:=.type "dict", data:=.dict #[] }) scope.names).Ns s.heap.objs.size (fun _=>none):=(Heap.Ns.new s.heap (.type "dict")).keeps (pushCells_keeps _ _)
 refine ⟨xok,rfl,I.bare,Un.kept keep,⟨_,m0,?_⟩,?_,I.hok.fresh (Nat.le_refl _),?_,fun p hp=>absurd (show p ∈ ([]:List (Addr × Obj)) from hp) (by simp),I.hok.kept keep,?_⟩
 ·intro i x v h1 h2 h3
  have hi:i < σ.length:=by
   by_cases hi:i < σ.length
   ·exact hi
   ·rw [List.getElem?_append_right (by omega),List.getElem?_replicate] at h2
    split at h2 <;> cases h2
  rw [List.getElem?_append_left hi] at h2
  have hN:i < X.N.length:=by rw [<-I.len];exact hi
  have h1h:(cH hs X.N)[i]?=some x:=by
   have h1:(cH hs X.N++own)[i]?=some x:=h1
   rwa [List.getElem?_append_left (by rw [i8];exact hN)] at h1
  have dx:=S.dis x (List.mem_of_getElem? h1h)
  have e:=fD X.env.scope x scope.names
  have h3':(fC scope X.env.scope).names.lookup x=some .local\/(fC scope X.env.scope).names.lookup x=some .cell\/(fC scope X.env.scope).names.lookup x=some .free:=h3
  have hfree:scope.names.lookup x=some .free:=by
   cases hl:scope.names.lookup x with
   | none=>rw [hl] at e;rcases h3' with z | z | z <;> (rw [show (fC scope X.env.scope).names.lookup x=none from e] at z;cases z)
   | some k=>
    rw [hl] at e dx
    cases k with
    | free=>rfl
    | «local»=>exact absurd rfl dx.1
    | cell=>exact absurd rfl dx.2
    | _=>rcases h3' with z | z | z <;> (rw [show (fC scope X.env.scope).names.lookup x=_ from e] at z;simp [mt] at z)
  have h1':X.N[i]?=some x:=by
   rcases mJ hs X.N h1h with z | ⟨j,hj,z⟩
   ·exact z
   ·rw [z,S.hd j hj] at hfree;cases hfree
  have mfree:=PySem.mem_of_lookup hfree
  have kX:=S.fr (x,.free) mfree rfl
  obtain ⟨m,hn,hl⟩:=I.loc
  obtain ⟨u,r,l⟩:=hl i x v h1' h2 (kX.elim (fun z=>.inr (.inl z)) fun z=>.inr (.inr z))
  refine ⟨u,r,.inr ⟨?_,?_⟩⟩
  ·have k3:(fC scope X.env.scope).names.lookup x=some (mt X.env.scope x .free):=by rw [hfree] at e;exact e
   have k4:mt X.env.scope x .free = .cell\/mt X.env.scope x .free = .free:=by unfold mt;split <;> simp
   rcases k4 with z | z
   ·exact .inl (by show (fC scope X.env.scope).names.lookup x=_;rw [k3,z])
   ·exact .inr (by show (fC scope X.env.scope).names.lookup x=_;rw [k3,z])
  ·rcases l with ⟨lk,_⟩ | ⟨_,c,hc,z⟩
   ·have lk':X.env.scope.names.lookup x=some .local:=lk
    rcases kX with q | q <;> (rw [q] at lk';cases lk')
   ·refine ⟨c,?_,z.keeps keep⟩
    obtain ⟨c',hc'⟩:=gg (cells:=X.env.cells) (acc:=[]) (.inl mfree)
    obtain ⟨c2,hl2⟩:=fB (l:=(rj scope s.heap.objs.size X.env).cells) ⟨c',by rw [cells];exact List.mem_append_right _ hc'⟩
    rcases which x c2 hl2 with a | ⟨a,_⟩
    ·rcases dE _ _ _ _ _ a with q | q
     ·exact nomatch q
     ·rw [cF S.uniq q] at hfree;cases hfree
    ·rw [hc] at a;cases a;exact hl2
 ·intro x c h
  rcases which x c h with a | ⟨a,_⟩
  ·exact ⟨_,(ok.empty x c a).1⟩
  ·obtain ⟨v,z⟩:=I.cell x c a
   exact ⟨v,z.keeps keep⟩
 ·intro x c h
  rcases which x c h with a | ⟨a,_⟩
  ·exact I.hok.fresh (Nat.le_trans (Nat.le_succ _) (neu x c a))
  ·exact I.freeC x c a
 ·show (σ++List.replicate own.length none).length=(cH hs X.N++own).length
  rw [List.length_append,List.length_append,List.length_replicate,i8,I.len]
end
end L2
namespace L2
open PySem PySem.Spec PyProof.Rows
noncomputable def pF (J:It) (g:TG) (tb:TS) (D:Ends) (σ:St) (H:Hp):Prop:=∃ W:Nat->Nat->St->Hp->Prop,(∃ m,W 0 m σ H)/\∀ i m σ H,W i m σ H ->
 (J.stop i H/\D.nx σ H)\/(J.go i H/\∃ N:St->Hp->Prop,(∀ σ' H',N σ' H'->∃ m',m' < m/\W (i+1) m' σ' H')/\∀ x H',J.yld i H x H'->g x σ H' fun σ2 H2=>tb { D with nx:=N,ct:=N,bk:=D.nx } σ2 H2)
noncomputable def PTs (Y:Cx) (ifs:List Expr) (t:TT):Prop:=
 ∀ (pins:List (Addr × Obj)) (s:Shared) (σ:St) (H:Hp) (Q:Bool->Hp->Prop),Inv Y pins σ H s->t σ H Q->wpAny (model Y.prog Y.w) Y.A (nR ifs Y.env) (TP Y pins σ Q) Y.xe s
noncomputable def Aw:TT:=fun _ H Q=>Q true H
theorem Ax {Y:Cx}:PTs Y [] Aw:=fun _ _ _ H _ I h=>by
 unfold nR;rw [List.forIn_nil];exact wpAny_pure ⟨H,I,h⟩
theorem Ay {Y:Cx} {c:Expr} {t:TT} (hc:PT Y c t):PTs Y [c] t:=fun pins s σ H Q I h=>by
 unfold nR
 rw [List.forIn_cons]
 simp only [if_true,List.forIn_nil]
 refine wpAny_bind (wpAny_bind (thn (hc pins s σ H Q I h) fun b s1 q=>wpAny_pure ?_))
 exact wpAny_pure q
noncomputable def PTl (Y:Cx) (elt:Expr) (gens:List Comprehension) (scope:Scope) (pos:Pos) (acc:Addr) (d:Nat) (t:TS):Prop:=
 ∀ (pins:List (Addr × Obj)) (s:Shared) (σ:St) (H:Hp) (D:Ends),Inv Y pins σ H s->t D σ H ->
  match gens[d+1]? with
  | none=>wpAny (model Y.prog Y.w) Y.A (eval elt Y.env) (fun x s5=>wpAny (model Y.prog Y.w) Y.A (call (.builtin "list.append") [.ref acc,x]) (fun _ s6=>∃ σ' H',Inv Y pins σ' H' s6/\D.nx σ' H') (fun _ _=>False) s5) (fun _ _=>False) s
  | some g'=>g'.is_async=0/\wpAny (model Y.prog Y.w) Y.A (eval g'.iter Y.env) (fun x s5=>wpAny (model Y.prog Y.w) Y.A (foldedSetIterable g'.iter Y.env x) (fun x' s6=>wpAny (model Y.prog Y.w) Y.A (pyIter x') (fun it' s7=>
    wpAny (model Y.prog Y.w) Y.A (runOwn (.compStart (.ListComp elt gens scope pos) (d+1) it' (.ref acc) Y.env) Y.env) (fun _ s8=>∃ σ' H',Inv Y pins σ' H' s8/\D.nx σ' H') (fun _ _=>False) s7) (fun _ _=>False) s6) (fun _ _=>False) s5) (fun _ _=>False) s
noncomputable def fh (ti:TT) (t:TS):TS:=fun D σ H=>ti σ H fun c H'=>if c=true then t D σ H' else D.nx σ H'
noncomputable def DK (acc:Addr) (te:TE):TS:=fun D σ H=>te σ H fun x H1=>∃ xs,H1 acc=some (.lst xs)/\xs.length < sizeLine/\D.nx σ (upd H1 acc (.lst (xs++[x])))
section
variable {Y:Cx} {elt:Expr} {gens:List Comprehension} {scope:Scope} {pos:Pos} {acc:Addr} {d:Nat}
theorem w5 {te:TE} (hx:Y.xe=fun _ _=>False) (hn:gens[d+1]?=none) (he:PE Y elt te):PTl Y elt gens scope pos acc d (DK acc te):=by
 intro pins s σ H D I h
 rw [hn]
 have hE:=he pins s σ H _ I h
 rw [hx] at hE
 refine thn hE fun x s5 ⟨v,H5,I5,r5,xs,h1,h2,q⟩=>?_
 have z:=mI pins s5 σ H5 (.ref acc) [v] (.ref acc) [x] (fun y H'=>y = .non/\D.nx σ H') I5 rfl (.cons r5 .nil) ⟨acc,xs,v,rfl,rfl,h1,h2,rfl,q⟩
 rw [hx] at z
 exact thn z fun y s6 ⟨v6,H6,I6,r6,e6,q6⟩=>⟨σ,H6,I6,q6⟩
theorem kl {A:Around} {R:Result->Shared->Prop} {prog:Program} {w:World} {s:Shared} {tg iter:Expr} {ifs:List Expr} {it acc:Value} {env:Env} (hg:gens[d]?=some ⟨tg,iter,ifs,0⟩)
  (h0:codeAny (model prog w) A (.compLoop (.ListComp elt gens scope pos) d it acc env) R s)
  (h:wpAny (model prog w) A (pyIter it) (fun it' s'=>codeAny (model prog w) A (.compLoop (.ListComp elt gens scope pos) d it' acc env) R s') (notedBy (model prog w) A env fun x s'=>R (.error x) s') s) :
  codeAny (model prog w) A (.compStart (.ListComp elt gens scope pos) d it acc env) R s:=by
 refine codeAny_of_tree ?_
 show wpAny _ _ ((compStart (.ListComp elt gens scope pos) d it acc env).onRaise (fun x=>do noteFrame x env;standAt theWindowsPlace)) _ _ s
 refine wpAny_notedAt ?_
 unfold compStart
 have hcl:(clausesOf (.ListComp elt gens scope pos))[d]?=some ⟨tg,iter,ifs,0⟩:=hg
 simp only [hcl,Option.elim]
 show wpAny _ _ (ask >>= _) _ _ s
 refine wpAny_bind (wpAny_askSetting (wpAny_ite ?_))
 split
 ·first
   | exact wpAny_bind (wpAny_pure (wpAny_pure (And.intro rfl h0)))
   | exact wpAny_pure (And.intro rfl h0)
 ·first
   | exact wpAny_bind (wpAny_rule (wpAny_bind (wpAny_standAt (wpAny_bind (wpAny_mono h (fun it' s' h'=>wpAny_pure (And.intro rfl h')) fun _ _ x=>x)))))
   | (refine wpAny_bind (wpAny_rule ?_);show wpAny _ _ (standAt iter.pos >>= _) _ _ s;exact wpAny_bind (wpAny_standAt (wpAny_bind (wpAny_mono h (fun it' s' h'=>wpAny_pure (And.intro rfl h')) fun _ _ x=>x))))
theorem mK {tg iter:Expr} {ifs:List Expr} {J:It} {fp:List Addr} {it:Addr} {tn:Nat->Heap->Prop} {pins:List (Addr × Obj)} {σ:St} {H:Hp} {s:Shared} {g:TG} {ti:TT} {t:TS} {D:Ends}
  (hx:Y.xe=fun _ _=>False) (hc:Y.calm=true) (hg:gens[d]?=some ⟨tg,iter,ifs,0⟩) (T:Turn Y.prog Y.w Y.K tg J fp it tn) (I2:Inv Y pins σ H s) (st2:tn 0 s.heap) (f2:∀ b ∈ fp,fA Y pins H b)
  (hgt:PG Y tg g) (hts:PTs Y ifs ti) (htl:PTl Y elt gens scope pos acc d t) (hW:pF J g (fh ti t) D σ H) :
  codeAny (model Y.prog Y.w) Y.A (.compLoop (.ListComp elt gens scope pos) d (.ref it) (.ref acc) Y.env) (fun r s'=>r = .ok .next/\∃ σ' H',Inv Y pins σ' H' s'/\D.nx σ' H') s:=by
 obtain ⟨W,⟨m0,w0⟩,turn⟩:=hW
 have stat:∀ {H':Hp},(∀ b ∈ fp,H' b=none)->∀ b ∈ fp,fA Y pins H' b:=fun hn b hb=>⟨hn b hb,(f2 b hb).2⟩
 refine codeAny_loop rfl (fun n s'=>∃ i σ' H',Inv Y pins σ' H' s'/\tn i s'.heap/\(∀ b ∈ fp,H' b=none)/\W i n σ' H') (fun n s3 hI=>?_) m0 ⟨0,σ,H,I2,st2,fun b hb=>(f2 b hb).1,w0⟩
 obtain ⟨i,σ3,H3,I3,st3,fr3,w3⟩:=hI
 show wpAny _ _ ((compTurn (.ListComp elt gens scope pos) d (.ref it) (.ref acc) Y.env).onRaise (fun x=>do noteFrame x Y.env;theTreesLotGoes x)) _ _ s3
 refine wpAny_noted (wpAny_mono (E:=fun _ _=>False) ?_ (fun _ _ q=>q) fun _ _ z=>z.elim)
 refine Au hg ?_
 rcases turn i n σ3 H3 w3 with ⟨stop,qn⟩ | ⟨go,N,hN,step⟩
 ·refine thn (T.done Y rfl rfl rfl hc i pins s3 σ3 H3 _ I3 (stat fr3) st3 stop) fun r s4 ⟨hr,I4⟩=>?_
  subst hr
  exact ⟨rfl,σ3,H3,I4,qn⟩
 ·refine thn (T.item Y rfl rfl rfl hc i pins s3 σ3 H3 _ I3 (stat fr3) st3 go) fun r s4 ⟨u,hr,h4⟩=>?_
  subst hr
  refine thn h4 fun _ s5 ⟨x,H5,I5,r5,y5,st5,fr5⟩=>?_
  have I5':=I5.pinned (stat fr5) (T.obj _ _ st5)
  have again:∀ {σ7:St} {H7:Hp} {s7:Shared},Inv Y (pins++kg fp s5.heap) σ7 H7 s7->N σ7 H7->∃ m,m < n/\∃ i σ' H',Inv Y pins σ' H' s7/\tn i s7.heap/\(∀ b ∈ fp,H' b=none)/\W i m σ' H':=fun {σ7 H7 s7} I7 n7=>by
   obtain ⟨m',hm,w7⟩:=hN σ7 H7 n7
   refine ⟨m',hm,i+1,σ7,H7,I7.unpinned,T.keep _ _ _ st5 fun b hb o e=>(I7.pin (b,o) (List.mem_append_right _ (List.mem_append_right _ (eD hb e)))).1,fun b hb=>?_,w7⟩
   obtain ⟨o,e,dd⟩:=T.obj _ _ st5 b hb
   exact (I7.pin (b,o) (List.mem_append_right _ (List.mem_append_right _ (eD hb e)))).2.1
  have hG:=hgt _ s5 σ3 H5 x u _ I5' r5 (step x H5 y5)
  rw [hx] at hG
  refine thn hG fun _ s6 ⟨σ6,H6,I6,q6⟩=>?_
  have hT:=hts _ s6 σ6 H6 _ I6 q6
  rw [hx] at hT
  refine thn hT fun ok s7 ⟨H7,I7,q7⟩=>?_
  cases ok with
  | false=>
   simp only [Bool.false_eq_true,if_false] at q7 ⊢
   exact ⟨by trivial,again I7 q7⟩
  | true=>
   simp only [if_true] at q7 ⊢
   have hL:=htl _ s7 σ6 H7 _ I7 q7
   cases hn:gens[d+1]? with
   | none=>
    rw [hn] at hL
    exact thn hL fun x s8 h8=>thn h8 fun _ s9 ⟨σ9,H9,I9,q9⟩=>⟨by trivial,again I9 q9⟩
   | some g'=>
    rw [hn] at hL
    obtain ⟨ha,hL⟩:=hL
    exact ⟨ha,thn hL fun x s8 h8=>thn h8 fun x' s9 h9=>thn h9 fun it' s10 h10=>thn h10 fun _ s11 ⟨σ9,H9,I9,q9⟩=>⟨by trivial,again I9 q9⟩⟩
noncomputable def w6 (wi:TI) (g:TG) (ti:TT) (t:TS):TS:=fun D σ H=>wi σ H fun J H1=>pF J g (fh ti t) D σ H1
theorem Az {tg iter:Expr} {ifs:List Expr} {wi:TI} {g:TG} {ti:TT} {t:TS} (hn:gens[d+1]?=some ⟨tg,iter,ifs,0⟩)
  (hi:PI Y tg iter wi) (hgt:PG Y tg g) (hts:PTs Y ifs ti) (htl:PTl Y elt gens scope pos acc (d+1) t) (hx:Y.xe=fun _ _=>False:=by rfl) (hc:Y.calm=true:=by rfl) (hs:∀ x,foldedSetIterable iter Y.env x=pure x:=by intro _;rfl) :
  PTl Y elt gens scope pos acc d (w6 wi g ti t):=by
 intro pins s σ H D I h
 rw [hn]
 refine ⟨rfl,?_⟩
 have hI:=hi pins s σ H _ I h
 rw [hx] at hI
 refine thn hI fun v s5 h5=>wpAny_of_eq (hs v) (thn h5 fun itv s6 h6=>?_)
 obtain ⟨it,fp,tn,J,H6,e,I6,T,st6,f6,W⟩:=h6
 subst e
 have L:=mK (elt:=elt) (gens:=gens) (scope:=scope) (pos:=pos) (acc:=acc) hx hc hn T I6 st6 f6 hgt hts htl W
 refine wpAny_runOwn (codeAny_mono (kl hn L (T.self _ 0 s6 _ _ st6 L)) fun r s8 hr=>?_)
 obtain ⟨rfl,q⟩:=hr
 exact q
end
noncomputable def w8 (own:Nat) (wi:TI) (g:TG) (tb:Addr->TS):TE:=fun σ H Q=>wi σ H fun J H1=>∀ acc,H1 acc=none ->
 pF J g (tb acc) { nx:=fun _ H'=>Q (.ref acc) H',rt:=fun _ _=>False } (σ++List.replicate own none) (upd H1 acc (.lst []))
section
variable {X:Cx} {elt tg iter:Expr} {ifs:List Expr} {rest:List Comprehension} {scope:Scope} {pos:Pos} {own:List Str} {hs:List Nat} {wi:TI} {g:TG} {ti:TT} {t:Addr->TS}
theorem km {pins:List (Addr × Obj)} {σ:St} {Q:VK} {itv:Value} {s2:Shared} {E:Value->Shared->Prop} (hc:X.calm=true) (S:CmScope own hs X.N scope X.env.scope)
  (hgt:∀ C ex s H,PG (cxC X own hs scope C ex s H) tg g) (hts:∀ C ex s H,PTs (cxC X own hs scope C ex s H) ifs ti)
  (htl:∀ C ex s H acc,PTl (cxC X own hs scope C ex s H) elt (⟨tg,iter,ifs,0⟩::rest) scope pos acc 0 (t acc))
  (h2:PIE X pins σ tg (fun J H1=>∀ acc,H1 acc=none->pF J g (fh ti (t acc)) { nx:=fun _ H'=>Q (.ref acc) H',rt:=fun _ _=>False } (σ++List.replicate own.length none) (upd H1 acc (.lst []))) itv s2)
  {RR:Value->Addr->Result->Shared->Prop} (hRR:∀ acc C H' s',Inv X pins σ H' s'->fA X pins H' C->(∃ m,s'.heap.Ns C m)->Q (.ref acc) H'->RR (.ref acc) C (.ok .next) s') :
  wpAny (model X.prog X.w) X.A (newList []) (fun acc s3=>wpAny (model X.prog X.w) X.A (newFunctionEnv scope X.env.globals (bQ X.env.cells scope.names []) [] X.env.qual none .none (some X.env)) (fun cenv s4=>
   codeAny (model X.prog X.w) X.A (.compStart (.ListComp elt (⟨tg,iter,ifs,0⟩::rest) scope pos) 0 itv acc { cenv with scope:=relabel scope X.env }) (RR acc cenv.locals) s4) E s3) E s2:=by
 obtain ⟨it,fp,tn,J,H2,e,I2,T,st2,f2,R⟩:=h2
 subst e
 refine wpAny_newObj_type ?_
 have I3:Inv X pins σ (upd H2 s2.heap.objs.size (.lst [])) { s2 with heap:=s2.heap.push { cls:=.type "list", dict:=none,data:=.seq ([]:List Value).toArray } }:=I2.lnew (its:=[]) (t':=s2.toks) .nil (Nat.zero_le _)
 have W:=R s2.heap.objs.size (I2.hok.fresh (Nat.le_refl _))
 generalize hs3:({ s2 with heap:=s2.heap.push { cls:=.type "list", dict:=none,data:=.seq ([]:List Value).toArray } }:Shared)=s3 at I3 ⊢
 have e3:s3.heap=s2.heap.push { cls:=.type "list", dict:=none,data:=.seq ([]:List Value).toArray }:=by rw [<-hs3]
 have k3:∀ b o,s2.heap.get? b=some o->s3.heap.get? b=some o:=fun b o e=>by rw [e3];exact Heap.get?_push_of_some _ e
 have st3:tn 0 s3.heap:=T.keep _ _ _ st2 fun b _ o e=>k3 b o e
 have fne:∀ b ∈ fp,b < s2.heap.objs.size:=fun b hb=>let ⟨o,e,_⟩:=T.obj _ _ st2 b hb;Heap.lt_size e
 have f3:∀ b ∈ fp,fA X pins (upd H2 s2.heap.objs.size (.lst [])) b:=fun b hb=>⟨by rw [aC (Nat.ne_of_lt (fne b hb))];exact (f2 b hb).1,(f2 b hb).2⟩
 have fo3:∀ b ∈ fp,b < s3.heap.objs.size:=fun b hb=>let ⟨o,e,_⟩:=T.obj _ _ st3 b hb;Heap.lt_size e
 refine uS ?_
 have I4:=I3.compStart S f3 fo3
 generalize hH3:upd H2 s2.heap.objs.size (.lst [])=H3 at I3 I4 f3 W
 have eE:({ scope:=relabel scope X.env,locals:=s3.heap.objs.size,globals:=X.env.globals,cells:=cellsFrom (s3.heap.objs.size+1) scope.names (bQ X.env.cells scope.names []),qual:=X.env.qual,func:=none,code:=X.env.code,frame:=X.env.frame,builtins:=X.env.builtins }:Env)=rj scope s3.heap.objs.size X.env:=by
  unfold rj;rw [Av]
 generalize hs4:({ s3 with heap:=pushCells (s3.heap.push { cls:=.type "dict", data:=.dict #[] }) scope.names }:Shared)=s4 at I4 ⊢
 have k4:∀ b o,s3.heap.get? b=some o->s4.heap.get? b=some o:=fun b o e=>by rw [<-hs4];exact pushCells_keeps _ _ b o (Heap.get?_push_of_some _ e)
 have st4:tn 0 s4.heap:=T.keep _ _ _ st3 fun b _ o e=>k4 b o e
 have f4:∀ b ∈ fp,fA (cxC X own hs scope s3.heap.objs.size fp s3 H3) [] H3 b:=fun b hb=>by
  refine ⟨(f3 b hb).1,Nat.ne_of_lt (fo3 b hb),I4.ok.exfs b hb,.inl hb,fun x c hl=>(I4.ok.exf b hb).2 x c hl,fun p hp=>absurd (show p ∈ ([]:List (Addr × Obj)) from hp) (by simp)⟩
 have L:=mK (Y:=cxC X own hs scope s3.heap.objs.size fp s3 H3) (elt:=elt) (gens:=⟨tg,iter,ifs,0⟩::rest) (d:=0) (scope:=scope) (pos:=pos) (acc:=s2.heap.objs.size) rfl hc rfl T I4 st4 f4 (hgt _ _ _ _) (hts _ _ _ _) (htl _ _ _ _ _) W
 have C:=kl (elt:=elt) (gens:=⟨tg,iter,ifs,0⟩::rest) (d:=0) (scope:=scope) (pos:=pos) rfl L (T.self _ 0 s4 _ _ st4 L)
 show codeAny (model X.prog X.w) X.A (.compStart (.ListComp elt (⟨tg,iter,ifs,0⟩::rest) scope pos) 0 (.ref it) (.ref s2.heap.objs.size) { scope:=relabel scope X.env,locals:=s3.heap.objs.size,globals:=X.env.globals,cells:=cellsFrom (s3.heap.objs.size+1) scope.names (bQ X.env.cells scope.names []),qual:=X.env.qual,func:=none,code:=X.env.code,frame:=X.env.frame,builtins:=X.env.builtins }) (RR (.ref s2.heap.objs.size) s3.heap.objs.size) s4
 rw [eE]
 refine codeAny_mono C fun r s' hr=>?_
 obtain ⟨rfl,σ',H',I',q⟩:=hr
 obtain ⟨mC,nC,_⟩:=id I'.loc
 have freeC:H' s3.heap.objs.size=none:=I'.free
 refine hRR _ _ H' s' ?_ (I3.fpOk (Nat.le_refl _) freeC) ⟨mC,nC⟩ q
 exact I3.call' (ch:=fp) I'.os I'.base I'.hok I'.bare fun b hb=>⟨(f3 b hb).2.2.2.1,(f3 b hb).2.1,(f3 b hb).2.2.2.2.1,(f3 b hb).2.2.2.2.2⟩
theorem AA (hc:X.calm=true) (S:CmScope own hs X.N scope X.env.scope) (hi:PI X tg iter wi)
  (hgt:∀ C ex s H,PG (cxC X own hs scope C ex s H) tg g) (hts:∀ C ex s H,PTs (cxC X own hs scope C ex s H) ifs ti)
  (htl:∀ C ex s H acc,PTl (cxC X own hs scope C ex s H) elt (⟨tg,iter,ifs,0⟩::rest) scope pos acc 0 (t acc))
  (hs:∀ x,foldedSetIterable iter X.env x=pure x:=by intro _;rfl) :
  PE X (.ListComp elt (⟨tg,iter,ifs,0⟩::rest) scope pos) (w8 own.length wi g fun acc=>fh ti (t acc)):=by
 intro pins s σ H Q I h
 rw [eval_ListComp]
 refine wpAny_comprehension_free (use:=none) (cl:=bQ X.env.cells scope.names []) rfl hs (tz fun y hy hk=>I.ok.has y.1 (S.fr y hy hk)) S.kind (fun y hy hk=>cF S.uniq (by rw [<-hk];exact hy)) ?_
 refine thn (hi pins s σ H _ I h) fun v s1 h1=>thn h1 fun itv s2 h2=>?_
 refine km hc S hgt hts htl h2 (RR:=fun acc C=>compPost (model X.prog X.w) X.A X.xe none (EP X pins σ Q) acc C) fun acc C H' s' I' f' m' q=>?_
 obtain ⟨m,nm⟩:=m'
 refine ⟨m,nm,fun h' sb=>⟨.ref acc,H',?_,rfl,q⟩⟩
 exact I'.turned (t':=s'.toks) (fun b o hb e=>(sb.2 b hb).trans e) f'.1 f'.2.1 f'.2.2.2.1 f'.2.2.2.2.1 f'.2.2.2.2.2
theorem AB {i:Nat} {x:Str} {pos' spos:Pos} (hc:X.calm=true) (S:CmScope own hs X.N scope X.env.scope) (hN:X.N.Nodup) (hix:X.N[i]?=some x) (hx:X.env.scope.names.lookup x=some .local) (hi:PI X tg iter wi)
  (hgt:∀ C ex s H,PG (cxC X own hs scope C ex s H) tg g) (hts:∀ C ex s H,PTs (cxC X own hs scope C ex s H) ifs ti)
  (htl:∀ C ex s H acc,PTl (cxC X own hs scope C ex s H) elt (⟨tg,iter,ifs,0⟩::rest) scope pos acc 0 (t acc))
  (hsw:swapsWith (.ListComp elt (⟨tg,iter,ifs,0⟩::rest) scope pos) (some (.Name x pos')) spos.line X.env=pure true:=by rfl)
  (hs:∀ x,foldedSetIterable iter X.env x=pure x:=by intro _;rfl) :
  PS X (.Assign [.Name x pos'] (.ListComp elt (⟨tg,iter,ifs,0⟩::rest) scope pos) spos) (wD (w8 own.length wi g fun acc=>fh ti (t acc)) (pC i)):=by
 intro pins s σ H D I h
 rw [exec_Assign_Name_used _ _ _ _ hsw]
 refine wpAny_bind (wpAny_standAt (wpAny_bind ?_))
 show wpAny _ X.A (do let _ <-comprehension (.ListComp elt (⟨tg,iter,ifs,0⟩::rest) scope pos) scope X.env _ (newList []) false (eval iter X.env) (some (assign (.Name x pos') X.env))) _ _ s
 refine wpAny_bind (wpAny_mono (wpAny_comprehension_free (use:=some (assign (.Name x pos') X.env)) (Q:=fun _ s'=>SP X pins D .next s') (cl:=bQ X.env.cells scope.names []) rfl hs (tz fun y hy hk=>I.ok.has y.1 (S.fr y hy hk)) S.kind (fun y hy hk=>cF S.uniq (by rw [<-hk];exact hy))
  ?_) (fun _ s' hq=>wpAny_pure (wpAny_pure hq)) fun _ _ e=>e)
 refine thn (hi pins s σ H _ I h) fun v s1 h1=>thn h1 fun itv s2 h2=>?_
 refine km (Q:=fun y H'=>pC i y σ H' D.nx) hc S hgt hts htl h2 (RR:=fun acc C=>compPost (model X.prog X.w) X.A X.xe (some (assign (.Name x pos') X.env)) (fun _ s'=>SP X pins D .next s') acc C) fun acc C H' s' I' f' m' q=>?_
 obtain ⟨m,nm⟩:=m'
 show wpAny _ X.A (assign (.Name x pos') X.env (.ref acc)) _ _ _
 refine wpAny_assign_Name (mz (v:=.ref acc) I' hN hix (.inl hx) rfl (fun s'' I'' hch=>?_) (.inr hx))
 obtain ⟨a,sb1,ha⟩:=hch
 have ne:C ≠ a:=by
  rcases ha with e | e
  ·rw [e];exact f'.2.1
  ·exact fun z=>f'.2.2.2.2.1 x a e z.symm
 refine ⟨m,nm.sameBut sb1 ne,fun h' sb=>⟨_,H',?_,q⟩⟩
 exact I''.turned (t':=s''.toks) (fun b o hb e=>(sb.2 b hb).trans e) f'.1 f'.2.1 f'.2.2.2.1 f'.2.2.2.2.1 f'.2.2.2.2.2
end
end L2
namespace HT
open PySem PyProof.Rows
section
variable {prog:Program} {w:World} {A:Around} {E:Value->Shared->Prop} {s:Shared}
theorem w9 {t b:Addr} {ws:List Value} {Q:Value->Shared->Prop} (ht:IsTup s.heap t ([]:List Value).toArray) (hb:IsTup s.heap b ws.toArray) (h:Q (.ref b) s):wpAny (model prog w) A (binaryOp .Add (.ref t) (.ref b)) Q E s:=by
 obtain ⟨⟨cls,dd,data,sl⟩,ho,hc,n,hd⟩:=id ht
 obtain ⟨⟨cls2,dd2,data2,sl2⟩,ho2,hc2,n2,hd2⟩:=id hb
 simp only at hc hd hc2 hd2
 subst hc hd hc2 hd2
 exact concat_meets ⟨_,ho,rfl⟩ ⟨_,ho2,rfl⟩ noFill_tuple_add seq_tuple_add PySem.F.slot_tuple_add PySem.F.entry_tuple_add (PySem.F.args_tuple_add_2 _ _)
   (tuple_addW0 t b _ ws.toArray n n2 dd dd2 sl sl2 (by simp)) ⟨ho,ho2,h⟩
theorem gB {t sl:Addr} {items:Array Value} {vl vu:Value} {lo hi:Option Int} {Q:Value->Shared->Prop} (ht:IsTup s.heap t items) (hs:s.heap.IsSliceOf sl vl vu .none) (pl:IsPart vl lo) (pu:IsPart vu hi)
  (hw:sIx items.size 0 lo=0/\sIx items.size items.size hi=items.size) (h:Q (.ref t) s):wpAny (model prog w) A (getItem (.ref t) (.ref sl)) Q E s:=by
 obtain ⟨os,hos,hcs,hds⟩:=id hs
 have hTs:s.TypeIs (.ref sl) "slice" := ⟨os,hos,hcs⟩
 obtain ⟨o,ho,hc,n,hd⟩:=id ht
 unfold getItem
 try with_reducible refine wpAny_holding ?_
 first | refine wpAny_bind (wpAny_pure ?_) | skip
 refine wpAny_bind (wpAny_sequenceKey ht.typeIs (by decide) ?_)
 refine wpAny_bind (wpAny_callSpecial?_slot (name:=Str.ofString "__getitem__") ht.typeIs PyProof.Rows.slot_tuple_getitem
  (wpAny_call_entry PyProof.Rows.slot_tuple_getitem ht.typeIs entry_tuple_getitem ?_ (args_tuple_getitem _ _)))
 show wpAny _ _ (Builtin.Tuple.tupleItemsOf (.ref t) >>= _) _ _ s
 refine wpAny_bind (tupleItemsOf_ ht ?_)
 refine wpAny_bind (wpAny_typeOf hTs ?_)
 rw [if_pos (by decide)]
 refine wpAny_bind (dP hs pl pu ?_)
 have hyes:((((sIx items.size 0 lo:Nat):Int) == 0 && (1:Int) == 1 && (sIx items.size items.size hi - sIx items.size 0 lo) == items.size)=true):=by
  rw [hw.1,hw.2];simp
 show wpAny _ _ (if (((sIx items.size 0 lo:Nat):Int) == 0 && (1:Int) == 1 && (sIx items.size items.size hi - sIx items.size 0 lo) == items.size)=true then _ else _) _ _ s
 rw [if_pos hyes]
 have hT:s.TypeIs (.ref t) "tuple" := ht.typeIs
 first
  | (refine wpAny_bind (m:=Builtin.Tuple.tupleIsExact _) ?_
     unfold Builtin.Tuple.tupleIsExact
     refine wpAny_bind (wpAny_typeOf hT (wpAny_pure ?_))
     rw [if_pos (by decide)]
     exact wpAny_bind (wpAny_rule (wpAny_pure ⟨_,rfl,wpAny_pure h⟩)))
end
end HT
namespace L2
open PySem PySem.Spec PyProof.Rows
theorem xa {s:Shared} {h':Heap} {o:Obj} (hk:∀ b x,b ∉ [s.heap.objs.size]->(s.heap.push o).get? b=some x->h'.get? b=some x):∀ b x,s.heap.get? b=some x->h'.get? b=some x:=
 fun b x e=>hk b x (fun hm=>by rw [List.mem_singleton.mp hm] at e;exact Nat.lt_irrefl _ (Heap.lt_size e)) (Heap.get?_push_of_some _ e)
section
variable {X:Cx}
noncomputable def JF (K:PySem.W.Frag):R2:=fun x y H Q=>∃ a b xs ys,x = .ref a/\y = .ref b/\SqT K H a xs/\SqT K H b ys/\xs.length+ys.length<=sizeLine ∧
 (xs=[]->Q (.ref b) H)/\(xs ≠ []->ys=[]->Q (.ref a) H)/\(xs ≠ []->ys ≠ []->∀ p,H p=none->Q (.ref p) (upd H p (.tup (xs++ys))))
theorem AC:OpR X (binaryOp .Add) (JF X.K):=by
 intro pins s σ H x y v u Q I rx ry h
 obtain ⟨a,b,xs,ys,rfl,rfl,ha,hb,hz,q0,q1,q2⟩:=h
 by_cases hx:xs=[]
 ·subst hx
  cases rx
  cases ry
  obtain ⟨its,r1,p1,_⟩:=I.tuple ha
  obtain ⟨its2,r2,p2,_⟩:=I.tuple hb
  cases r1
  exact HT.w9 p1 p2 ⟨.ref b,H,I,rfl,q0 rfl⟩
 ·exact Ap pins s σ H _ _ v u Q I rx ry ⟨a,b,xs,ys,rfl,rfl,ha,hb,hx,hz,q1 hx,q2 hx⟩
noncomputable def L6 (K:PySem.W.Frag):V->Option Int->Option Int->Hp->VK->Prop:=fun x lo hi H Q=>∃ a xs,x = .ref a/\SqT K H a xs ∧
 ((HT.sIx xs.length 0 lo=0/\HT.sIx xs.length xs.length hi=xs.length)->Q (.ref a) H) ∧
 (¬ (HT.sIx xs.length 0 lo=0/\HT.sIx xs.length xs.length hi=xs.length)->∀ p,H p=none->Q (.ref p) (upd H p (.tup (kj xs lo hi))))
theorem AD:SlR X (L6 X.K):=by
 intro pins s σ H x v vl vu lo hi sl Q I rx hs pl pu h
 obtain ⟨a,xs,rfl,hx,q1,q2⟩:=h
 by_cases hw:(HT.sIx xs.length 0 lo=0/\HT.sIx xs.length xs.length hi=xs.length)
 ·cases rx
  obtain ⟨its,r,ht,hz⟩:=I.tuple hx
  have hlen:its.toArray.size=xs.length:=by rw [List.size_toArray];exact r.length.symm
  refine ⟨"tuple", _,PyProof.Rows.slot_tuple_getitem.lookup,ht.typeIs,?_⟩
  exact HT.gB ht hs pl pu (by rw [hlen];exact hw) ⟨.ref a,H,I,rfl,q1 hw⟩
 ·exact EW pins s σ H _ v vl vu lo hi sl Q I rx hs pl pu ⟨a,xs,rfl,hx,hw,q2 hw⟩
theorem pG:aZ X (.builtin "isinstance") (fun xs H Q=>∃ x n t b,xs=[x,.ty n]/\TyOf X.K H x t/\PySem.W.kitOne X.K t (.type n)=some b/\Q (.bl b) H):=by
 intro pins s σ H xs us Q I r h
 obtain ⟨x,n,t,b,rfl,ty,e,q⟩:=h
 obtain ⟨u,w',rfl,rx,ry⟩:=sX r
 cases ry
 exact uK I rx ty e fun tk=>⟨.bl b,H,I.tok tk,rfl,q⟩
theorem ko:∀ {bs:List Bool} {us:List Value},aM (bs.map V.bl) us->us=bs.map Value.bool
 | [],_,.nil=>rfl
 | _::_,_,.cons r t=>by rw [List.map_cons,ko t];cases r;rfl
theorem uT (hc:X.calm=true):aZ X (.builtin "all") (fun xs H Q=>∃ (l:Addr) (bs:List Bool),xs=[.ref l]/\SqL X.K H l (bs.map V.bl)/\Q (.bl (bs.all id)) H):=by
 intro pins s σ H xs us Q I r h
 obtain ⟨l,bs,rfl,hl,q⟩:=h
 obtain ⟨u,rfl,ru⟩:=cW r
 cases ru
 obtain ⟨its,rv,p,hz⟩:=I.list hl
 have e:=ko rv
 subst e
 have hL:=p.isList
 have hlt:l < s.heap.objs.size:=by obtain ⟨_,e,_⟩:=hL;exact Heap.lt_size e
 refine call_all_walk (wpAny_pyIter_list hL ?_)
 refine ⟨s.heap.objs.size,[s.heap.objs.size,l],[s.heap.objs.size],_,_,_,fun i=>(bs[i]?).getD true,rfl,Walks.list (A:=X.A.in1) (I.ok.hd hc) _ l (Nat.ne_of_lt hlt) _,
  ⟨⟨_,Heap.get?_push_size _ rfl,rfl,rfl⟩,hL.push _⟩,fun i v s' Q' E' hP hQ=>?_,fun h' tk hk=>?_⟩
 ·have hP':(bs.map Value.bool)[i]?=some v:=by simpa using hP
  rw [List.getElem?_map] at hP'
  cases hb:bs[i]? with
  | none=>rw [hb] at hP';cases hP'
  | some b=>
   rw [hb] at hP'
   have ev:Value.bool b=v:=Option.some.inj hP'
   subst ev
   simp only [hb,Option.getD_some] at hQ
   exact wpAny_truthy_bool hQ
 ·have e:((List.range (bs.map Value.bool).toArray.size).all fun i=>(bs[i]?).getD true)=bs.all id:=by
   rw [List.size_toArray,List.length_map,Bool.eq_iff_iff]
   simp only [List.all_eq_true,List.mem_range,id]
   constructor
   ·intro h b hb
    obtain ⟨i,hi,rfl⟩:=List.mem_iff_getElem.mp hb
    have:=h i hi
    rwa [gEG hi,Option.getD_some] at this
   ·intro h i hi
    rw [gEG hi,Option.getD_some]
    exact h _ (List.getElem_mem hi)
  rw [e]
  exact ⟨.bl (bs.all id),H,I.kept (t':=tk) (xa hk),rfl,q⟩
theorem E8:OpR X (compareOp .Is) (fun x y H Q=>∃ b c,x = .bl b/\y = .bl c/\Q (.bl (b == c)) H):=by
 intro pins s σ H x y v u Q I rx ry h
 obtain ⟨b,c,rfl,rfl,q⟩:=h
 cases rx;cases ry
 exact is_bool ⟨.bl _,H,I,rfl,q⟩
theorem uU:OpR X (compareOp .IsNot) (fun x y H Q=>∃ b c,x = .bl b/\y = .bl c/\Q (.bl (b != c)) H):=by
 intro pins s σ H x y v u Q I rx ry h
 obtain ⟨b,c,rfl,rfl,q⟩:=h
 cases rx;cases ry
 exact isnot_bool ⟨.bl _,H,I,rfl,q⟩
theorem kq (hc:X.calm=true):∀ {pins:List (Addr × Obj)} {s:Shared} {σ:St} {H:Hp} {Q:VK} {r:Addr} {n:Nat} {t u v:Tok},Inv X pins σ H s->IsRange s.heap r 0 n 1 t u v->n<=1000->(∀ l,H l=none->Q (.ref l) (upd H l (.lst ((List.range n).map fun (i:Nat)=>V.int i)))) ->
  wpAny (model X.prog X.w) X.A (call (.type "list") [.ref r]) (EP X pins σ Q) X.xe s:=by
 intro pins s σ H Q r n t u v I hr hn q
 have hsm:Builtin.Range.small 0 n 1=true:=small_one (by omega) (by omega) (by omega) (by omega)
 refine call_list_range (n:=n) (I.ok.hd hc) hr hsm (by rw [rangeSize_one];split <;> omega) (by omega) fun h' tk acc' c' hk hS' hacc=>?_
 refine ⟨.ref s.heap.objs.size,_,I.laid (t':=tk) (o:=.lst ((List.range n).map fun (i:Nat)=>V.int i)) hk (Nat.le_refl _) ?_,rfl,q _ (I.hok.fresh (Nat.le_refl _))⟩
 have hsz:acc'.size=n:=hacc.1
 refine ⟨by rw [List.length_map,List.length_range];exact Nat.le_of_lt (uR hn),acc'.toList,c',?_,by simpa using hS'⟩
 have go:∀ (m:Nat) (k:Nat) (l:List Value),l.length=m->(∀ j x,l[j]?=some x->∃ tk,x=Value.int (((k+j:Nat):Nat):Int) tk)->aM ((List.range' k m).map fun (i:Nat)=>V.int i) l:=by
  intro m
  induction m with
  | zero=>intro k l hl _;cases l with | nil=>exact .nil | cons _ _=>cases hl
  | succ m ih=>
   intro k l hl hx
   cases l with
   | nil=>cases hl
   | cons x l=>
    rw [List.range'_succ,List.map_cons]
    obtain ⟨t,e⟩:=hx 0 x rfl
    refine .cons ⟨t,by simpa using e⟩ (ih (k+1) l (by simpa using hl) fun j y hy=>?_)
    obtain ⟨t',e'⟩:=hx (j+1) y (by simpa using hy)
    exact ⟨t',by rw [e',show ((k+(j+1):Nat):Int)=((k+1+j:Nat):Int) from by omega]⟩
 rw [List.range_eq_range']
 refine go n 0 acc'.toList (by simpa using hsz) fun j x hx=>?_
 obtain ⟨tk',e⟩:=hacc.2 j x (by simpa using hx)
 exact ⟨tk',by rw [e,show (0:Int)+(j:Nat) * 1=((0+j:Nat):Int) from by omega]⟩
end
end L2
namespace HT
open PySem PyProof.Rows
open AutoSeq1 (wpAny_loadPart')
section
variable {prog:Program} {w:World} {A:Around} {E:Value->Shared->Prop} {s:Shared}
theorem jR {it t:Addr} {i:Nat} {items:Array Value} {x:Value} {Q:Value->Shared->Prop} (hit:s.heap.IsTupleIter it t i) (ht:s.heap.IsTuple t items) (hx:items[i]?=some x)
  (hQ:∀ h',h'.IsTupleIter it t (i+1)->Heap.SameBut it s.heap h'->Q x { s with heap:=h' }):wpAny (model prog w) A (Builtin.SmallTypes.nextOf (.ref it)) Q E s:=by
 obtain ⟨o,ho,hc,hd⟩:=id hit
 obtain ⟨ol,hol,_,nl,hdl⟩:=ht
 unfold Builtin.SmallTypes.nextOf
 refine wpAny_bind (wpAny_callSpecial?_slot (name:=Str.ofString "__next__") hit.typeIs PySem.F.slot_tuple_iterator_next
  (wpAny_call_entry PySem.F.slot_tuple_iterator_next hit.typeIs PySem.F.entry_tuple_iterator_next ?_ (PySem.F.args_tuple_iterator_next_1 _)))
 show wpAny _ _ (field (.ref it) 0 >>= _) _ _ s
 refine wpAny_bind (wpAny_field ho hd (x:=.ref t) rfl ?_)
 show wpAny _ _ (if (Value.ref t == Value.none)=true then _ else _) _ _ s
 rw [if_neg (show ¬ ((Value.ref t == Value.none)=true) from Bool.false_ne_true)]
 show wpAny _ _ (field (.ref it) 1 >>= _) _ _ s
 refine wpAny_bind (wpAny_field ho hd (x:=.int i 0) rfl ?_)
 show wpAny _ _ (seqItems? (.ref t) >>= _) _ _ s
 refine wpAny_bind (wpAny_seqItems hol hdl ?_)
 simp only [Int.toNat_natCast,hx]
 refine wpAny_bind (wpAny_setField ho hd (by simp) (wpAny_pure ⟨x,rfl,wpAny_pure (hQ _ ?_ (Heap.SameBut.update ..))⟩))
 exact ⟨_,Heap.get?_update_self _ ho (Obj.isFreed_of_fields (Obj.data_mapFields hd _)),(Obj.cls_mapFields ..).trans hc,by
  rw [Obj.data_mapFields hd];simp [rawInt]⟩
theorem kr {it t:Addr} {i:Nat} {items:Array Value} {Q:Value->Shared->Prop} (hh:A.handled=none) (hit:s.heap.IsTupleIter it t i) (ht:s.heap.IsTuple t items) (hx:items[i]?=none)
  (hE:∀ h' e,Heap.ExtBut it s.heap h'->(∃ o,h'.get? e=some o/\o.cls = .type "StopIteration")->E (.ref e) { s with heap:=h' }):wpAny (model prog w) A (Builtin.SmallTypes.nextOf (.ref it)) Q E s:=by
 obtain ⟨o,ho,hc,hd⟩:=id hit
 obtain ⟨ol,hol,_,nl,hdl⟩:=ht
 unfold Builtin.SmallTypes.nextOf
 refine wpAny_bind (wpAny_callSpecial?_slot (name:=Str.ofString "__next__") hit.typeIs PySem.F.slot_tuple_iterator_next
  (wpAny_call_entry PySem.F.slot_tuple_iterator_next hit.typeIs PySem.F.entry_tuple_iterator_next ?_ (PySem.F.args_tuple_iterator_next_1 _)))
 show wpAny _ _ (field (.ref it) 0 >>= _) _ _ s
 refine wpAny_bind (wpAny_field ho hd (x:=.ref t) rfl ?_)
 show wpAny _ _ (if (Value.ref t == Value.none)=true then _ else _) _ _ s
 rw [if_neg (show ¬ ((Value.ref t == Value.none)=true) from Bool.false_ne_true)]
 show wpAny _ _ (field (.ref it) 1 >>= _) _ _ s
 refine wpAny_bind (wpAny_field ho hd (x:=.int i 0) rfl ?_)
 show wpAny _ _ (seqItems? (.ref t) >>= _) _ _ s
 refine wpAny_bind (wpAny_seqItems hol hdl ?_)
 simp only [Int.toNat_natCast,hx]
 refine wpAny_bind (wpAny_rule (wpAny_bind (wpAny_setField ho hd (by simp) ?_)))
 show wpAny _ _ (newExc (.type "StopIteration") [] >>= _) _ _ _
 refine wpAny_bind ?_
 simp only [newExc,newTuple]
 refine wpAny_bind (wpAny_newObj_type ?_ (by size_fits))
 refine wpAny_bind (m:=firstArgMember _ _) (wpAny_of_eq (a:=Value.none) (by first | rfl | (simp only [firstArgMember];rfl)) ?_)
 refine wpAny_newObj_type ?_ (by size_fits)
 simp only [raiseNew]
 refine wpAny_bind (wpAny_handled ?_)
 first | rw [show A.in1.handled=none from hh] | rw [hh]
 refine wpAny_bind (wpAny_pure (wpAny_throw ?_))
 exact hE _ _ (((Heap.SameBut.update ..).extBut.push _).push _) ⟨_,Heap.get?_push_size _ rfl,rfl⟩
end
theorem xc {prog:Program} {w:World} {A:Around} (hh:A.handled=none) (it l:Addr) (hne:l ≠ it) (items:Array Value) :
  Draws prog w A it [it,l] items.size (fun i v=>items[i]?=some v) (fun i h=>h.IsTupleIter it l i/\h.IsTuple l items) where
 live:=fun _ _ st=>let ⟨o,ho,_⟩:=st.1;⟨o,ho⟩
 frame:=fun _ _ _ st hk=>⟨st.1.at fun o e=>hk it (by simp) o e,let ⟨o,e,r⟩:=st.2;⟨o,hk l (by simp) o e,r⟩⟩
 item:=fun i s Q E hi st hQ=>by
  refine jR st.1 st.2 (x:=items[i]) (by simp [hi]) fun h' hit' hs'=>?_
  exact hQ _ h' s.toks (by simp [hi]) ⟨hit',let ⟨o,e,r⟩:=st.2;⟨o,hs'.extBut l o hne e,r⟩⟩ hs'
 done:=fun s Q E st hE=>kr hh st.1 st.2 (by simp) hE
theorem pH (l:Addr) (items:Array Value) (n:Nat) (dct:Option Addr) (sl:Array (Option Value)) :
  Meets (Builtin.«enumerate.__new__» ⟨[.type "enumerate", .ref l],[]⟩) (fun _ R s=>s.heap.get? l=some { cls:=.type "tuple", dict:=dct,data:=.seq items n,slots:=sl } ∧
   R (.ok (.ret (.ref (s.heap.push { cls:=.type "tuple_iterator", data:=.fields #[.ref l,.int 0 0] }).objs.size)))
    { s with heap:=(s.heap.push { cls:=.type "tuple_iterator", data:=.fields #[.ref l,.int 0 0] }).push { cls:=.type "enumerate", data:=.fields #[.none,.bool false,.ref s.heap.objs.size,rawInt 0,.none,.none] } }):=
 .of_wp fun prog w A R s h=>by
  obtain ⟨hp,g,d,tk,os⟩:=s;obtain ⟨hl,h⟩:=h
  have hsub:=sub_enumerate
  have hL:Heap.IsTuple (Shared.heap ⟨hp,g,d,tk,os⟩) l items:=⟨_,hl,rfl,n,rfl⟩
  wp_walk using wpAny_loadPart' hl
  refine wpAny_stack_any fun st=>wpAny_pure ?_
  split
  ·rename_i c _ _ _ _ _
   cases (c == Value.type "enumerate")
   ·wp_walk using wpAny_loadPart' hl,wpAny_pyIter_tuple hL
    exact ⟨_,rfl,h⟩
   ·wp_walk using wpAny_loadPart' hl,wpAny_pyIter_tuple hL
    exact ⟨_,rfl,h⟩
  ·wp_walk using wpAny_loadPart' hl,wpAny_pyIter_tuple hL
   exact ⟨_,rfl,h⟩
theorem rk {prog:Program} {w:World} {A:Around} {E:Value->Shared->Prop} {s:Shared} {l:Addr} {items:Array Value} {Q:Value->Shared->Prop} (hL:IsTup s.heap l items)
  (h:∀ h',IsEnum h' (s.heap.objs.size+1) s.heap.objs.size 0 .none->h'.IsTupleIter s.heap.objs.size l 0->h'.objs.size=s.heap.objs.size+2 ->
   (∀ b o,s.heap.get? b=some o->h'.get? b=some o)->Q (.ref (s.heap.objs.size+1)) { s with heap:=h' }) :
  wpAny (model prog w) A (call (.type "enumerate") [.ref l]) Q E s:=by
 obtain ⟨⟨c,dct,dt,sl⟩,hl,hc,n,hd⟩:=hL
 replace hc:c = .type "tuple" := hc
 replace hd:dt = .seq items n:=hd
 subst hc hd
 refine callType_new PySem.F.called_enumerate (by decide) (PySem.F.typeCall_enumerate_1 _) (PySem.F.newCall_enumerate_1 _) (fun obj=>PySem.F.args_object_init_2 obj _) PySem.F.entry_enumerate_new
  (pH l items n dct sl) ⟨hl,?_⟩
 have hz:(s.heap.push { cls:=.type "tuple_iterator", data:=.fields #[.ref l,.int 0 0] }).objs.size=s.heap.objs.size+1:=Heap.size_push ..
 show _/\_
 rw [hz]
 have he:IsEnum ((s.heap.push { cls:=.type "tuple_iterator", data:=.fields #[.ref l,.int 0 0] }).push
   { cls:=.type "enumerate", data:=.fields #[.none,.bool false,.ref s.heap.objs.size,rawInt 0,.none,.none] }) (s.heap.objs.size+1) s.heap.objs.size 0 .none:=by
  have:=Heap.get?_push_size (s.heap.push { cls:=.type "tuple_iterator", data:=.fields #[.ref l,.int 0 0] })
   (o:={ cls:=.type "enumerate", data:=.fields #[.none,.bool false,.ref s.heap.objs.size,rawInt 0,.none,.none] }) rfl
  rw [hz] at this;exact this
 exact ⟨⟨_,he,rfl⟩,h _ he ⟨_,Heap.get?_push_of_some _ (Heap.get?_push_size _ rfl),rfl,rfl⟩ (by rw [Heap.size_push,hz]) fun b o x=>Heap.get?_push_of_some _ (Heap.get?_push_of_some _ x)⟩
end HT
namespace L2
open PySem PySem.Spec PyProof.Rows
noncomputable def Ite (K:PySem.W.Frag) (a:Addr) (sq:PySem.W.Frag->Hp->Addr->List V->Prop):It:=
 ⟨fun i H=>∃ xs x,sq K H a xs/\xs[i]?=some x,fun i H x H'=>∃ T,H T=none/\x = .ref T/\∀ xs v,sq K H a xs->xs[i]?=some v->H'=upd H T (.tup [.int i,v]),fun i H=>∃ xs,sq K H a xs/\xs.length=i⟩
theorem Inv.turnedLaid {X:Cx} {pins:List (Addr × Obj)} {σ:St} {H:Hp} {s:Shared} {h':Heap} {T:Addr} {o:HO} {t':Nat} {ch:List Addr} (I:Inv X pins σ H s) (hf:∀ b ∈ ch,fA X pins H b)
  (k:∀ b ob,b ∉ ch->s.heap.get? b=some ob->h'.get? b=some ob) (hp:s.heap.objs.size<=T) (new:bL X.prog X.w (upd H T o) h' T o):Inv X pins σ (upd H T o) { s with heap:=h',toks:=t' }:=by
 have fr:=I.hok.fresh hp
 have neT:∀ b ob,s.heap.get? b=some ob->b ≠ T:=fun b ob e=>Nat.ne_of_lt (Nat.lt_of_lt_of_le (Heap.lt_size e) hp)
 refine I.step (g':=s.gens) (d':=s.drawn) (ch:=ch) (fun b hb=>⟨(hf b hb).2.2.2.1,(hf b hb).2.1,(hf b hb).2.2.2.2.1,(hf b hb).2.2.2.2.2⟩) (fun b ob _ _ hc e _=>k b ob hc e) (fun b ob _ _ hc e _=>⟨ob.slots,k b ob hc e⟩)
  (fun b ob _ e n=>by rw [aC (neT b ob e)];exact n) (fun b ob hc e=>⟨ob,k b ob hc e⟩) (fun b xs q=>by rw [aC (aP q fr)];exact q) (fun b u xs q=>by rw [aC (aP q fr)];exact q)
  (fun b ps q=>⟨#[],by rw [aC (aP q fr),q];simp⟩) (fun m hm=>?_) (fun b u q=>?_) I.bare
 ·obtain ⟨ob,es,ep,ho',r'⟩:=hm
  exact ⟨ob,es,ep,k _ ob (fun z=>(hf _ z).2.1 rfl) ho',r'⟩
 ·by_cases hb:b=T
  ·subst hb;rw [bf] at q;cases q;exact new
  ·rw [aC hb] at q
   refine (I.hok b u q).stay (fun c v hc q'=>k c v (fun z=>?_) q') (fun c q=>by rw [aC (aP q fr)];exact q) fun c xs q=>by rw [aC (aP q fr)];exact q
   have n:=(hf c z).1
   rcases hc with w | w
   ·rw [w,q] at n;cases n
   ·rw [w] at n;cases n
theorem Inv.turnedAll {X:Cx} {pins:List (Addr × Obj)} {σ:St} {H:Hp} {s:Shared} {h':Heap} {t':Nat} {ch:List Addr} (I:Inv X pins σ H s) (hf:∀ b ∈ ch,fA X pins H b)
  (k:∀ b ob,b ∉ ch->s.heap.get? b=some ob->h'.get? b=some ob):Inv X pins σ H { s with heap:=h',toks:=t' }:=by
 refine I.step (g':=s.gens) (d':=s.drawn) (ch:=ch) (fun b hb=>⟨(hf b hb).2.2.2.1,(hf b hb).2.1,(hf b hb).2.2.2.2.1,(hf b hb).2.2.2.2.2⟩) (fun b ob _ _ hc e _=>k b ob hc e) (fun b ob _ _ hc e _=>⟨ob.slots,k b ob hc e⟩)
  (fun b ob _ e n=>n) (fun b ob hc e=>⟨ob,k b ob hc e⟩) (fun b xs q=>q) (fun b u xs q=>q)
  (fun b ps q=>⟨#[],by rw [q];simp⟩) (fun m hm=>?_) (fun b u q=>?_) I.bare
 ·obtain ⟨ob,es,ep,ho',r'⟩:=hm
  exact ⟨ob,es,ep,k _ ob (fun z=>(hf _ z).2.1 rfl) ho',r'⟩
 ·refine (I.hok b u q).stay (fun c v hc q'=>k c v (fun z=>?_) q') (fun c q=>q) fun c xs q=>q
  have n:=(hf c z).1
  rcases hc with w | w
  ·rw [w,q] at n;cases n
  ·rw [w] at n;cases n
theorem rl {P:Program} {w:World} {K:PySem.W.Frag} {elts:List Expr} {x1:Nat} {tp:Pos} (a e it:Addr) (hei:e ≠ it) :
  Turn P w K (.Tuple elts x1 tp) (Ite K a SqL) [e,it] e (fun i h=>(∃ old,IsEnum h e it i old)/\h.IsListIter it a i) where
 mem:=by simp
 obj:=fun i h st b hb=>by
  obtain ⟨⟨old,he⟩,o,eo,c,d⟩:=st
  rcases List.mem_cons.mp hb with z | z
  ·subst z;exact ⟨_,he,fun v z=>by have z':Data.fields _=Data.cell v:=z;cases z'⟩
  ·have z':=List.mem_singleton.mp z;subst z';exact ⟨o,eo,fun v z=>by rw [d] at z;cases z⟩
 keep:=fun i h h' st k=>⟨let ⟨old,he⟩:=st.1;⟨old,k e (by simp) _ he⟩,st.2.at fun o eo=>k it (by simp) o eo⟩
 item:=by
  intro X hP hw hK hc i pins s σ H E I hf st hg
  subst hP hw hK
  obtain ⟨xs,x,hq,hx⟩:=hg
  obtain ⟨its,rv,p,hz⟩:=I.list hq
  obtain ⟨u,hu,ru⟩:=rv.get hx
  obtain ⟨⟨old,he⟩,hit⟩:=st
  have hL:s.heap.IsList a its.toArray:=p.isList
  have hae:e ≠ a:=fun z=>by
   subst z
   obtain ⟨o,ho,hc',n,hd'⟩:=id hL
   rw [he] at ho;cases ho
   have z':Data.fields _=Data.seq its.toArray n:=hd'
   cases z'
  have hai:a ≠ it:=fun z=>by
   subst z
   obtain ⟨o,ho,hc',n,hd'⟩:=id hL
   obtain ⟨o',ho',c',d'⟩:=id hit
   rw [ho'] at ho;cases ho;rw [d'] at hd';cases hd'
  have hi:i < its.toArray.size:=by
   have:=(List.getElem?_eq_some_iff.mp hu).1
   simpa using this
  refine wpAny_pyNext_enum_itemD (Draws.list (A:=X.A.in1) (I.ok.hd hc) it a hai its.toArray) he ⟨hit,hL⟩ hi hei (by simp [hei,hae]) fun y h' tk hP ho hs' hT hsz hk=>?_
  have ey:y=u:=by
   have z:its.toArray[i]?=some u:=by simpa using hu
   rw [z] at hP;exact (Option.some.inj hP).symm
  subst ey
  refine ⟨_,rfl,?_⟩
  refine wpAny_letOwnedTupleGo_enum ho fun h2 he2 hs2=>?_
  have helt:e < s.heap.objs.size:=Heap.lt_size he
  have hilt:it < s.heap.objs.size:=by obtain ⟨o,eo,_⟩:=hit;exact Heap.lt_size eo
  have hT2:h2.get? s.heap.objs.size=some { cls:=.type "tuple", data:=.seq #[.int i tk,y] }:=(hs2.2 _ (Nat.ne_of_gt helt)).trans hT
  have fresh:=I.hok.fresh (Nat.le_refl s.heap.objs.size)
  refine ⟨.ref s.heap.objs.size,upd H s.heap.objs.size (.tup [.int i,x]),?_,rfl,⟨_,fresh,rfl,fun ys v hy hv=>?_⟩,⟨⟨y,by simpa using he2⟩,hs'.1.at fun o eo=>(hs2.2 it (Ne.symm hei)).trans eo⟩,fun b hb=>?_⟩
  ·exact I.turnedLaid (t':=tk+1) hf (fun b ob hb eb=>(hs2.2 b fun z=>hb (by simp [z])).trans (hk b ob (fun z=>hb (by simp [z])) (fun z=>hb (by simp [z])) eb)) (Nat.le_refl _)
    ⟨by show 2<=sizeLine;decide,[.int i tk,y],.cons ⟨tk,rfl⟩ (.cons ru .nil),⟨_,hT2,rfl,_,rfl,rfl⟩⟩
  ·rw [I.list_inj hy hq,hx] at hv;cases hv;rfl
  ·rcases List.mem_cons.mp hb with z | z
   ·rw [z,aC (Nat.ne_of_lt helt)];exact (hf e (by simp)).1
   ·rw [List.mem_singleton.mp z,aC (Nat.ne_of_lt hilt)];exact (hf it (by simp)).1
 done:=by
  intro X hP hw hK hc i pins s σ H E I hf st hg
  subst hP hw hK
  obtain ⟨xs,hq,hx⟩:=hg
  obtain ⟨its,rv,p,hz⟩:=I.list hq
  obtain ⟨⟨old,he⟩,hit⟩:=st
  have hL:s.heap.IsList a its.toArray:=p.isList
  have hai:a ≠ it:=fun z=>by
   subst z
   obtain ⟨o,ho,hc',n,hd'⟩:=id hL
   obtain ⟨o',ho',c',d'⟩:=id hit
   rw [ho'] at ho;cases ho;rw [d'] at hd';cases hd'
  have hn:its.toArray.size=i:=by rw [List.size_toArray,<-rv.length,hx]
  subst hn
  refine wpAny_pyNext_enum_endD (Draws.list (A:=X.A.in1) (I.ok.hd hc) it a hai its.toArray) he ⟨hit,hL⟩ fun h' eb=>⟨rfl,?_⟩
  exact I.turnedAll (t':=s.toks) hf fun b ob hb q=>eb b ob (fun z=>hb (by simp [z])) q
 self:=fun _ _ _ _ _ st h=>let ⟨⟨old,he⟩,_⟩:=st;wpAny_pyIter_enum he h
theorem rm {P:Program} {w:World} {K:PySem.W.Frag} {elts:List Expr} {x1:Nat} {tp:Pos} (a e it:Addr) (hei:e ≠ it) :
  Turn P w K (.Tuple elts x1 tp) (Ite K a SqT) [e,it] e (fun i h=>(∃ old,IsEnum h e it i old)/\h.IsTupleIter it a i) where
 mem:=by simp
 obj:=fun i h st b hb=>by
  obtain ⟨⟨old,he⟩,o,eo,c,d⟩:=st
  rcases List.mem_cons.mp hb with z | z
  ·subst z;exact ⟨_,he,fun v z=>by have z':Data.fields _=Data.cell v:=z;cases z'⟩
  ·have z':=List.mem_singleton.mp z;subst z';exact ⟨o,eo,fun v z=>by rw [d] at z;cases z⟩
 keep:=fun i h h' st k=>⟨let ⟨old,he⟩:=st.1;⟨old,k e (by simp) _ he⟩,st.2.at fun o eo=>k it (by simp) o eo⟩
 item:=by
  intro X hP hw hK hc i pins s σ H E I hf st hg
  subst hP hw hK
  obtain ⟨xs,x,hq,hx⟩:=hg
  obtain ⟨its,rv,p,hz⟩:=I.tuple hq
  obtain ⟨u,hu,ru⟩:=rv.get hx
  obtain ⟨⟨old,he⟩,hit⟩:=st
  have hL:s.heap.IsTuple a its.toArray:=p
  have hae:e ≠ a:=fun z=>by
   subst z
   obtain ⟨o,ho,hc',n,hd'⟩:=id hL
   rw [he] at ho;cases ho
   have z':Data.fields _=Data.seq its.toArray n:=hd'
   cases z'
  have hai:a ≠ it:=fun z=>by
   subst z
   obtain ⟨o,ho,hc',n,hd'⟩:=id hL
   obtain ⟨o',ho',c',d'⟩:=id hit
   rw [ho'] at ho;cases ho;rw [d'] at hd';cases hd'
  have hi:i < its.toArray.size:=by
   have:=(List.getElem?_eq_some_iff.mp hu).1
   simpa using this
  refine wpAny_pyNext_enum_itemD (HT.xc (A:=X.A.in1) (I.ok.hd hc) it a hai its.toArray) he ⟨hit,hL⟩ hi hei (by simp [hei,hae]) fun y h' tk hP ho hs' hT hsz hk=>?_
  have ey:y=u:=by
   have z:its.toArray[i]?=some u:=by simpa using hu
   rw [z] at hP;exact (Option.some.inj hP).symm
  subst ey
  refine ⟨_,rfl,?_⟩
  refine wpAny_letOwnedTupleGo_enum ho fun h2 he2 hs2=>?_
  have helt:e < s.heap.objs.size:=Heap.lt_size he
  have hilt:it < s.heap.objs.size:=by obtain ⟨o,eo,_⟩:=hit;exact Heap.lt_size eo
  have hT2:h2.get? s.heap.objs.size=some { cls:=.type "tuple", data:=.seq #[.int i tk,y] }:=(hs2.2 _ (Nat.ne_of_gt helt)).trans hT
  have fresh:=I.hok.fresh (Nat.le_refl s.heap.objs.size)
  refine ⟨.ref s.heap.objs.size,upd H s.heap.objs.size (.tup [.int i,x]),?_,rfl,⟨_,fresh,rfl,fun ys v hy hv=>?_⟩,⟨⟨y,by simpa using he2⟩,hs'.1.at fun o eo=>(hs2.2 it (Ne.symm hei)).trans eo⟩,fun b hb=>?_⟩
  ·exact I.turnedLaid (t':=tk+1) hf (fun b ob hb eb=>(hs2.2 b fun z=>hb (by simp [z])).trans (hk b ob (fun z=>hb (by simp [z])) (fun z=>hb (by simp [z])) eb)) (Nat.le_refl _)
    ⟨by show 2<=sizeLine;decide,[.int i tk,y],.cons ⟨tk,rfl⟩ (.cons ru .nil),⟨_,hT2,rfl,_,rfl,rfl⟩⟩
  ·rw [I.tuple_inj hy hq,hx] at hv;cases hv;rfl
  ·rcases List.mem_cons.mp hb with z | z
   ·rw [z,aC (Nat.ne_of_lt helt)];exact (hf e (by simp)).1
   ·rw [List.mem_singleton.mp z,aC (Nat.ne_of_lt hilt)];exact (hf it (by simp)).1
 done:=by
  intro X hP hw hK hc i pins s σ H E I hf st hg
  subst hP hw hK
  obtain ⟨xs,hq,hx⟩:=hg
  obtain ⟨its,rv,p,hz⟩:=I.tuple hq
  obtain ⟨⟨old,he⟩,hit⟩:=st
  have hL:s.heap.IsTuple a its.toArray:=p
  have hai:a ≠ it:=fun z=>by
   subst z
   obtain ⟨o,ho,hc',n,hd'⟩:=id hL
   obtain ⟨o',ho',c',d'⟩:=id hit
   rw [ho'] at ho;cases ho;rw [d'] at hd';cases hd'
  have hn:its.toArray.size=i:=by rw [List.size_toArray,<-rv.length,hx]
  subst hn
  refine wpAny_pyNext_enum_endD (HT.xc (A:=X.A.in1) (I.ok.hd hc) it a hai its.toArray) he ⟨hit,hL⟩ fun h' eb=>⟨rfl,?_⟩
  exact I.turnedAll (t':=s.toks) hf fun b ob hb q=>eb b ob (fun z=>hb (by simp [z])) q
 self:=fun _ _ _ _ _ st h=>let ⟨⟨old,he⟩,_⟩:=st;wpAny_pyIter_enum he h
noncomputable def E9 (K:PySem.W.Frag) (ta:TA):TI:=fun σ H R=>ta σ H fun vs H1=>∃ a xs,vs=[.ref a]/\SqL K H1 a xs/\R (Ite K a SqL) H1
noncomputable def JG (K:PySem.W.Frag) (ta:TA):TI:=fun σ H R=>ta σ H fun vs H1=>∃ a xs,vs=[.ref a]/\SqT K H1 a xs/\R (Ite K a SqT) H1
section
variable {X:Cx} {elts:List Expr} {x1:Nat} {tp:Pos}
theorem xf {a:Expr} {ta:TA} {p pos:Pos} (hg:Gl X "enumerate") (hm:X.mg "enumerate" = none) (ha:PA X [a] ta) (hs:starEach [a] X.env=[(false,eval a X.env)]:=by rfl):PI X (.Tuple elts x1 tp) (.Call (.Name "enumerate" p) [a] [] pos) (E9 X.K ta):=by
 intro pins s σ H R I h
 refine Call_ (eC I hg hm PyProof.Rows.boot_enumerate (PyProof.Rows.callWith_type1 (thn (ha pos pins s σ H _ I h) fun us s1 ⟨vs,H1,I1,r1,q1⟩=>?_) hs rfl))
 obtain ⟨l,xs,e,hl,q⟩:=q1
 subst e
 obtain ⟨u,rfl,ru⟩:=cW r1
 cases ru
 obtain ⟨its,rv,pl,hz⟩:=I1.list hl
 refine call_enumerate_list pl.isList fun h' he hit hsz hk=>wpAny_pyIter_enum he ?_
 have I2:Inv X pins σ H1 { s1 with heap:=h' }:=I1.kept (t':=s1.toks) hk
 have fr:∀ b,s1.heap.objs.size<=b->fA X pins H1 b:=fun b hb=>I1.fpOk hb (I1.hok.fresh hb)
 refine ⟨_,[s1.heap.objs.size+1,s1.heap.objs.size],_,_,H1,rfl,I2,rl l _ _ (Nat.succ_ne_self _),⟨⟨_,he⟩,hit⟩,fun b hb=>?_,q⟩
 rcases List.mem_cons.mp hb with z | z
 ·rw [z];exact fr _ (Nat.le_succ _)
 ·rw [List.mem_singleton.mp z];exact fr _ (Nat.le_refl _)
theorem Fa {a:Expr} {ta:TA} {p pos:Pos} (hg:Gl X "enumerate") (hm:X.mg "enumerate" = none) (ha:PA X [a] ta) (hs:starEach [a] X.env=[(false,eval a X.env)]:=by rfl):PI X (.Tuple elts x1 tp) (.Call (.Name "enumerate" p) [a] [] pos) (JG X.K ta):=by
 intro pins s σ H R I h
 refine Call_ (eC I hg hm PyProof.Rows.boot_enumerate (PyProof.Rows.callWith_type1 (thn (ha pos pins s σ H _ I h) fun us s1 ⟨vs,H1,I1,r1,q1⟩=>?_) hs rfl))
 obtain ⟨l,xs,e,hl,q⟩:=q1
 subst e
 obtain ⟨u,rfl,ru⟩:=cW r1
 cases ru
 obtain ⟨its,rv,pl,hz⟩:=I1.tuple hl
 refine HT.rk pl fun h' he hit hsz hk=>wpAny_pyIter_enum he ?_
 have I2:Inv X pins σ H1 { s1 with heap:=h' }:=I1.kept (t':=s1.toks) hk
 have fr:∀ b,s1.heap.objs.size<=b->fA X pins H1 b:=fun b hb=>I1.fpOk hb (I1.hok.fresh hb)
 refine ⟨_,[s1.heap.objs.size+1,s1.heap.objs.size],_,_,H1,rfl,I2,rm l _ _ (Nat.succ_ne_self _),⟨⟨_,he⟩,hit⟩,fun b hb=>?_,q⟩
 rcases List.mem_cons.mp hb with z | z
 ·rw [z];exact fr _ (Nat.le_succ _)
 ·rw [List.mem_singleton.mp z];exact fr _ (Nat.le_refl _)
end
section
variable {X:Cx}
theorem pJ:aZ X (.type "range") (fun xs H Q=>∃ j:Int,xs=[.int j]/\∀ p,H p=none->Q (.ref p) (upd H p (.rng 0 j))):=by
 intro pins s σ H xs us Q I r h
 obtain ⟨j,rfl,q⟩:=h
 obtain ⟨u,rfl,ru⟩:=cW r
 obtain ⟨t,rfl⟩:=ru
 exact call_range_1 ⟨.ref s.heap.objs.size,_,I.laid (t':=s.toks+1+1) (o:=.rng 0 j) (fun b o e=>Heap.get?_push_of_some _ e) (Nat.le_refl _) ⟨_,_,_,Heap.get?_push_size _ rfl⟩,rfl,q _ (I.hok.fresh (Nat.le_refl _))⟩
theorem nS (hc:X.calm=true):aZ X (.type "list") (fun xs H Q=>∃ (p:Addr) (n:Nat),xs=[.ref p]/\H p=some (.rng 0 n)/\n<=1000/\∀ l,H l=none->Q (.ref l) (upd H l (.lst ((List.range n).map fun (i:Nat)=>V.int i)))):=by
 intro pins s σ H xs us Q I r h
 obtain ⟨p,n,rfl,hp,hn,q⟩:=h
 obtain ⟨u,rfl,ru⟩:=cW r
 cases ru
 obtain ⟨t,u,v,e⟩:=(show bL X.prog X.w H s.heap p (.rng 0 n) from I.hok p _ hp)
 exact kq hc I e hn q
end
end L2
namespace L2
open PySem PySem.Spec PyProof.Rows
section
variable {X:Cx}
noncomputable def DL (i j k:Nat) (ta:TA):TS:=fun D σ H=>ta σ H fun vs H1=>∃ v w z,vs=[v,w,z]/\D.nx (((σ.set i (some v)).set j (some w)).set k (some z)) H1
theorem AE {i j k:Nat} {x y z:Str} {a b c:Expr} {ta:TA} {px py pz pt pos:Pos} {kt k2 pt2} (hc:X.calm=true) (hN:X.N.Nodup) (hi:X.N[i]?=some x) (hj:X.N[j]?=some y) (hk:X.N[k]?=some z) (hij:i ≠ j) (hik:i ≠ k) (hjk:j ≠ k)
  (hx:X.env.scope.names.lookup x=some .local) (hy:X.env.scope.names.lookup y=some .local) (hz:X.env.scope.names.lookup z=some .local) (ha:PA X [a,b,c] ta)
  (hw:swappedStores [.Tuple [.Name x px,.Name y py,.Name z pz] kt pt] (.Tuple [a,b,c] k2 pt2) X.env=pure (some [x,y,z]))
  (hs:swapsWithSole [.Tuple [.Name x px,.Name y py,.Name z pz] kt pt] (.Tuple [a,b,c] k2 pt2) pos.line X.env=pure false:=by rfl) :
  PS X (.Assign [.Tuple [.Name x px,.Name y py,.Name z pz] kt pt] (.Tuple [a,b,c] k2 pt2) pos) (DL i j k ta):=by
 intro pins s σ H D I h
 rw [exec_Assign_arm]
 refine wpAny_bind (wpAny_standAt ?_)
 rw [hs]
 refine wpAny_bind (wpAny_pure ?_)
 rw [if_neg (by decide)]
 refine wpAny_bind (Tuple_ (thn (ha _ pins s σ H _ I h) fun us s1 ⟨vs,H1,I1,r1,q1⟩=>?_))
 obtain ⟨v,w,z',e1,q1⟩:=q1
 subst e1
 obtain ⟨u1,u2,u3,rfl,rv,rw',rz⟩:∃ u1 u2 u3,us=[u1,u2,u3]/\aK v u1/\aK w u2/\aK z' u3:=by
  cases r1 with
  | cons p q=>
   cases q with
   | cons p' q'=>
    cases q' with
    | cons p'' q''=>
     cases q''
     exact ⟨_,_,_,rfl,p,p',p''⟩
 refine wpAny_newObj_type ?_ (by show 3<=sizeLine;decide)
 have I2:Inv X pins σ H1 { s1 with heap:=s1.heap.push { cls:=.type "tuple", data:=.seq [u1,u2,u3].toArray } }:=I1.kept (t':=s1.toks) fun b o e=>Heap.get?_push_of_some _ e
 rw [hw]
 refine wpAny_bind (wpAny_pure ?_)
 show wpAny (model X.prog X.w) X.A (do rule "assign.swapped-stores"; let items <-unpackItems (.ref s1.heap.objs.size) 3 none;assignInOrder [fun v=>bindName X.env z v,fun v=>bindName X.env y v,fun v=>bindName X.env x v] items.reverse;pure Flow.next) _ _ _
 refine wpAny_bind (wpAny_rule (wpAny_bind (unpackItems_tuple (items:=#[u1,u2,u3]) (I.ok.hd hc) (IsTup.new s1.heap _) fun h' hx'=>?_)))
 have I3:=I2.kept (h':=h') (t':=s1.toks) fun b o e=>hx' b o (Nat.ne_of_lt (Heap.lt_size e)) e
 show wpAny _ _ (assignInOrder [fun v=>bindName X.env z v,fun v=>bindName X.env y v,fun v=>bindName X.env x v] [u3,u2,u1] >>= fun _=>pure Flow.next) _ _ _
 refine wpAny_bind (assignInOrder_cons (wpAny_bindName (cG I3 hN hk (.inl hz) rz (fun s2 I4=>?_) (.inr hz))))
 refine assignInOrder_cons (wpAny_bindName (cG I4 hN hj (.inl hy) rw' (fun s3 I5=>?_) (.inr hy)))
 refine assignInOrder_cons (wpAny_bindName (cG I5 hN hi (.inl hx) rv (fun s4 I6=>assignInOrder_nil (wpAny_pure ?_)) (.inr hx)))
 refine ⟨_,H1,?_,q1⟩
 rw [List.set_comm _ _ (Ne.symm hjk),List.set_comm _ _ (Ne.symm hik),List.set_comm (some w) (some v) (Ne.symm hij)] at I6
 exact I6
end
noncomputable def i9:List Str->Bool
 | []=>true
 | x::r=>!r.contains x && i9 r
theorem iq:∀ {l:List Str},i9 l=true->l.Nodup
 | [],_=>List.nodup_nil
 | x::r,h=>by
  unfold i9 at h
  rw [bAE] at h
  refine List.nodup_cons.mpr ⟨fun m=>?_,iq h.2⟩
  have:=h.1
  simp [m] at this
noncomputable def cmB (own:List Str) (hs:List Nat) (N:List Str) (scope sc:Scope):Bool:=
 (scope.kind == .function) && i9 (cH hs N++own) && i9 (scope.names.map (·.1)) && ((cH hs N).all fun x=>scope.names.lookup x != some .local && scope.names.lookup x != some .cell) &&
 (scope.names.all fun y=>y.2 != .free || (sc.names.lookup y.1 == some .cell || sc.names.lookup y.1 == some .free)) && hs.all fun i=>(scope.names.lookup (w4 i)).isNone
theorem xg {own:List Str} (hs:List Nat) {N:List Str} {scope sc:Scope} (h:cmB own hs N scope sc=true):CmScope own hs N scope sc:=by
 unfold cmB at h
 simp only [bAE,List.all_eq_true] at h
 obtain ⟨⟨⟨⟨⟨h1,h2⟩,h3⟩,h4⟩,h5⟩,h6⟩:=h
 refine ⟨by simpa using h1,iq h2,iq h3,fun x hx=>?_,fun y hy hk=>?_,fun i hi=>by simpa using h6 i hi⟩
 ·have:=h4 x hx
  simpa using this
 ·have:=h5 y hy
  rw [hk] at this
  simpa using this
end L2
namespace L2
open PySem PySem.Spec PyProof.Rows
section
variable {X:Cx} {tg l a:Expr} {tl:TE} {ta:TA} {es:List Expr} {t:TGs} {p pos:Pos} {n k:Nat} {elts:List Expr} {x1:Nat} {tp:Pos} {o e:Expr} {to:TE} {tt:TA} {name:Str} {apos cpos:Pos}
noncomputable def DM (K:PySem.W.Frag):List V->Hp->VK->Prop:=fun xs H Q=>∃ x n t b,xs=[x,.ty n]/\TyOf K H x t/\PySem.W.kitOne K t (.type n)=some b/\Q (.bl b) H
theorem nT (K:PySem.W.Frag) (hK:X.K=K:=by rfl):aZ X (.builtin "isinstance") (DM K):=hK ▸ pG
end
end L2
namespace L2
open PySem PySem.Spec PyProof.Rows
theorem ku {x:V}:∀ {xs:List V} {us:List Value},aM xs us->xs.all dQ=true->us.countP (eqU x)=xs.countP fun y=>eqV y x
 | _,_,.nil,_=>rfl
 | y::xs,u::us,.cons r t,f=>by
  rw [List.all_cons,bAE] at f
  rw [List.countP_cons,List.countP_cons,rh r f.1,ku t f.2]
section
variable {X:Cx}
noncomputable def AF (K:PySem.W.Frag):V->List V->Hp->VK->Prop:=fun x vs H Q=>∃ p xs y,x = .ref p/\vs=[y]/\SqT K H p xs/\dQ y=true/\xs.all dQ=true/\Q (.int ((xs.countP fun z=>eqV z y:Nat):Int)) H
theorem uV (K:PySem.W.Frag) (hK:X.K=K:=by rfl):MtR X "tuple.count" (AF K):=by
 subst hK
 intro pins s σ H x vs v us Q I rx rv h
 obtain ⟨p,xs,y,rfl,rfl,hq,fy,fs,q⟩:=h
 cases rx
 obtain ⟨u,rfl,ru⟩:=rv.one
 obtain ⟨its,r,⟨⟨cls,dd,data,sl⟩,e,hc,n,hd⟩,hz⟩:=I.tuple hq
 simp only at hc hd
 subst hc hd
 refine call_meets F.slot_tuple_count ⟨_,e,rfl⟩ F.entry_tuple_count (F.args_tuple_count_2 _ _) (SeqAt.tuple_countAt p its.toArray n dd sl u (eqU y)) ⟨e,fun w hw=>dR ru fy r fs w (by simpa using hw),?_⟩
 refine ⟨.int _,H,I.tok _,⟨_,rfl⟩,?_⟩
 have z:(its.toArray.toList.countP (eqU y))=xs.countP fun z=>eqV z y:=by
  rw [List.toList_toArray];exact ku r fs
 rw [z]
 exact q
end
end L2
namespace Dw
open PySem PySem.Spec PyProof.Rows L2
inductive D where
 | non | bl (b:Bool) | int (i:Int) | str (x:Str) | tup (ds:List D) | lst (ds:List D) | dic (ks:List Key) (ds:List D)
noncomputable def isB:D->Bool | .bl _=>true | _=>false
end Dw
namespace Dw
open PySem PySem.Spec PyProof.Rows L2
noncomputable def isW (d:D):Bool:=match d with | .int _=>true | _=>false
noncomputable def ax (d:D) (a b:Int):Bool:=match d with | .int i=>decide (a<=i) && decide (i<=b) | _=>false
noncomputable def isT (d:D) (a b:Int):Bool:=match d with | .tup ds=>decide (a<=(ds.length:Int)) && decide ((ds.length:Int)<=b) | _=>false
noncomputable def gG (n:Nat) (d:D):Bool:=match d with | .tup ds=>decide (ds.length=n) && ds.all (fun e=>ax e 1 99) | _=>false
noncomputable def kv (aU:List D) (a b:Nat):Int:=match aU[a]? with
 | some (.tup r)=>(match r[b]? with | some (.int i)=>i | _=>0)
 | _=>0
noncomputable def rp (aU:List D) (a b c:Nat):Bool:=decide (kv aU a b<=kv aU a c+kv aU c b)
noncomputable def uW (aU:List D) (n:Nat):List Bool:=(List.range n).flatMap fun a=>(List.range n).flatMap fun b=>(List.range n).map fun c=>rp aU a b c
noncomputable def bR (d:D):Bool:=match d with
 | .tup aU=>(decide (1<=aU.length) && decide (aU.length<=4)) && (aU.all (gG aU.length) && (uW aU aU.length).all id)
 | _=>false
noncomputable def ltD (x y:D):Bool:=match x,y with | .int i,.int j=>decide (i < j) | _,_=>false
noncomputable def aY (d:D):Bool:=match d with | .tup [b,e]=>ax b 0 9999 && (ax e 0 9999 && ltD b e) | _=>false
noncomputable def jw (ds:List D) (i:Nat):Int:=match ds[i]? with | some (.tup [.int b,_])=>b | _=>0
noncomputable def jx (ds:List D) (i:Nat):Int:=match ds[i]? with | some (.tup [_,.int e])=>e | _=>0
noncomputable def nU (ds:List D):List Bool:=(List.range (ds.length - 1)).map fun i=>decide (jx ds i < jw ds (i+1))
noncomputable def bw (d:D):Bool:=match d with | .tup ds=>decide (ds.length<=4) && (ds.all aY && (nU ds).all id) | _=>false
noncomputable def bH (d:D):Bool:=match d with
 | .tup [r,s,g,h]=>ax r 0 8 && (ax s 0 60 && (bR g && bw h))
 | _=>false
theorem nV (ds:List D) (n:Nat):isT (.tup ds) n n=decide (ds.length=n):=by
 unfold isT
 rw [Bool.eq_iff_iff];simp;omega
theorem ay {d:D} {a b:Int} (h:ax d a b=true):∃ i,d = .int i/\a<=i/\i<=b:=by
 cases d with
 | int i=>simp [ax] at h;exact ⟨i,rfl,h.1,h.2⟩
 | _=>simp [ax] at h
theorem nX {aU:List D} {n a b:Nat} (h:aU.all (gG n)=true) (ha:a < aU.length) (hb:b < n):∃ r i,aU[a]?=some (.tup r)/\r[b]?=some (.int i)/\kv aU a b=i/\1<=i/\i<=99:=by
 have h1:=List.all_eq_true.mp h aU[a] (List.getElem_mem ha)
 have e1:aU[a]?=some aU[a]:=gEG ha
 generalize hd:aU[a]=d at h1 e1
 cases d with
 | tup r=>
  simp only [gG,bAE,decide_eq_true_eq] at h1
  have hb':b < r.length:=by omega
  obtain ⟨i,e2,l,u⟩:=ay (List.all_eq_true.mp h1.2 r[b] (List.getElem_mem hb'))
  have e3:r[b]?=some (.int i):=by rw [gEG hb',e2]
  exact ⟨r,i,e1,e3,by unfold kv;rw [e1];dsimp only;rw [e3],l,u⟩
 | _=>simp [gG] at h1
theorem mL {α:Type} (n:Nat) (f:Nat->List α):(List.range (n+1)).flatMap f=(List.range n).flatMap f++f n:=by
 rw [List.range_succ,List.flatMap_append];simp
theorem tB {α:Type} {n m:Nat} {f:Nat->List α} (h:∀ i,i < n->(f i).length<=m):((List.range n).flatMap f).length<=n * m:=by
 induction n with
 | zero=>simp
 | succ n ih=>
  rw [mL,List.length_append]
  have:=ih fun i hi=>h i (by omega)
  have:=h n (by omega)
  rw [Nat.succ_mul];omega
theorem Fb (ds:List D):isT (.tup ds) 1 4=(decide (1<=ds.length) && decide (ds.length<=4)):=by
 unfold isT
 rw [Bool.eq_iff_iff];simp;omega
theorem Fc (ds:List D):isT (.tup ds) 0 4=decide (ds.length<=4):=by
 unfold isT
 rw [Bool.eq_iff_iff];simp;omega
theorem xh (ds:List D):isT (.tup ds) 2 2=decide (ds.length=2):=nV ds 2
theorem xi (ds:List D):isT (.tup ds) 4 4=decide (ds.length=4):=nV ds 4
theorem xj {ds:List D} (h:ds.length=2):∃ b e,ds=[b,e]:=by
 match ds,h with
 | [b,e],_=>exact ⟨b,e,rfl⟩
theorem tD {ds:List D} (h:ds.length=4):∃ a b c d,ds=[a,b,c,d]:=by
 match ds,h with
 | [a,b,c,d],_=>exact ⟨a,b,c,d,rfl⟩
theorem rq {d:D} (h:aY d=true):∃ b e,d = .tup [.int b,.int e]/\0<=b/\b<=9999/\0<=e/\e<=9999/\b < e:=by
 unfold aY at h
 split at h
 ·rename_i b e
  simp only [bAE] at h
  obtain ⟨h1,h2,h3⟩:=h
  obtain ⟨i,rfl,l1,u1⟩:=ay h1
  obtain ⟨j,rfl,l2,u2⟩:=ay h2
  simp [ltD] at h3
  exact ⟨i,j,rfl,l1,u1,l2,u2,h3⟩
 ·cases h
theorem tF {ds:List D} {i:Nat} (h:ds.all aY=true) (hi:i < ds.length):∃ b e,ds[i]?=some (.tup [.int b,.int e])/\jw ds i=b/\jx ds i=e:=by
 obtain ⟨b,e,q,_⟩:=rq (List.all_eq_true.mp h ds[i] (List.getElem_mem hi))
 have e1:ds[i]?=some (.tup [.int b,.int e]):=by rw [gEG hi,q]
 exact ⟨b,e,e1,by unfold jw;rw [e1],by unfold jx;rw [e1]⟩
noncomputable def gC (ds:List D) (lo hi:Option Int):List D:=(ds.drop (HT.sIx ds.length 0 lo)).take (HT.sIx ds.length ds.length hi - HT.sIx ds.length 0 lo)
theorem rA (n:Nat) (a:Int) (h0:0<=a):HT.sIx n n (some a)=min a.toNat n:=by
 show (if a < 0 then (a+(n:Int)).toNat else min a.toNat n)=_
 rw [if_neg (by omega)]
noncomputable def cX (q:Int × Int):D:=.tup [.int q.1,.int q.2]
structure Good (es:List (Int × Int)) (b:Int):Prop where
 each:∀ q ∈ es,0<=q.1/\q.1 < q.2/\q.2<=b
 rise:∀ (i:Nat) q q',es[i]?=some q->es[i+1]?=some q'->q.2 < q'.1
theorem Good.shuts {es:List (Int × Int)} {b:Int} (h:Good es b) (hb:b<=9999) (hl:es.length<=4):bw (.tup (es.map cX))=true:=by
 have hs:(es.map cX).all aY=true:=by
  rw [List.all_map,List.all_eq_true]
  intro q hq
  have:=h.each q hq
  show aY (cX q)=true
  simp only [cX,aY,ax,ltD,bAE,decide_eq_true_eq]
  omega
 unfold bw
 rw [bAE,bAE]
 refine ⟨decide_eq_true (by rw [List.length_map];exact hl),hs,?_⟩
 rw [List.all_eq_true]
 intro x hx
 unfold nU at hx
 obtain ⟨i,hi,rfl⟩:=List.mem_map.mp hx
 rw [List.mem_range,List.length_map] at hi
 have e1:es[i]?=some es[i]:=gEG (by omega)
 have e2:es[i+1]?=some es[i+1]:=gEG (by omega)
 have r:=h.rise i _ _ e1 e2
 have f1:jx (es.map cX) i=es[i].2:=by unfold jx;rw [List.getElem?_map,e1];rfl
 have f2:jw (es.map cX) (i+1)=es[i+1].1:=by unfold jw;rw [List.getElem?_map,e2];rfl
 show decide (jx (es.map cX) i < jw (es.map cX) (i+1))=true
 rw [f1,f2]
 exact decide_eq_true r
noncomputable def mg2 (M:List (List Int)) (i j:Nat):Int:=(((M[i]?).getD [])[j]?).getD 0
structure Mat (n:Nat) (M:List (List Int)):Prop where
 len:M.length=n
 row:∀ r ∈ M,r.length=n
 ent:∀ r ∈ M,∀ x ∈ r,1<=x/\x<=99
theorem Mat.at {n:Nat} {M:List (List Int)} (h:Mat n M) {i j:Nat} (hi:i < n) (hj:j < n):∃ r,M[i]?=some r/\r.length=n/\r[j]?=some (mg2 M i j)/\1<=mg2 M i j/\mg2 M i j<=99:=by
 have hi':i < M.length:=by rw [h.len];exact hi
 have e1:M[i]?=some M[i]:=gEG hi'
 have hr:=h.row _ (List.getElem_mem hi')
 have hj':j < M[i].length:=by omega
 have e2:mg2 M i j=M[i][j]:=by unfold mg2;rw [e1,Option.getD_some,gEG hj',Option.getD_some]
 have:=h.ent _ (List.getElem_mem hi') _ (List.getElem_mem hj')
 exact ⟨M[i],e1,hr,by rw [e2,gEG hj'],by omega,by omega⟩
noncomputable def kx (n k:Nat) (M:List (List Int)):Prop:=∀ a b q,a < n->b < n->q < k->mg2 M a b<=mg2 M a q+mg2 M q b
theorem xk {n k:Nat} {M M':List (List Int)} (h:Mat n M) (hk:k < n) (ht:kx n k M) (hm:∀ i j,i < n->j < n->mg2 M' i j=min (mg2 M i j) (mg2 M i k+mg2 M k j)):kx n (k+1) M':=by
 intro a b q ha hb hq
 have hqn:q < n:=by omega
 obtain ⟨_,_,_,_,p1,_⟩:=h.at ha hb
 obtain ⟨_,_,_,_,p2,_⟩:=h.at ha hk
 obtain ⟨_,_,_,_,p3,_⟩:=h.at hk hb
 obtain ⟨_,_,_,_,p4,_⟩:=h.at hk hk
 obtain ⟨_,_,_,_,p5,_⟩:=h.at ha hqn
 obtain ⟨_,_,_,_,p6,_⟩:=h.at hqn hb
 obtain ⟨_,_,_,_,p7,_⟩:=h.at hk hqn
 obtain ⟨_,_,_,_,p8,_⟩:=h.at hqn hk
 rw [hm a b ha hb,hm a q ha hqn,hm q b hqn hb]
 by_cases e:q=k
 ·subst e;omega
 ·have hq':q < k:=by omega
  have t1:=ht a b q ha hb hq'
  have t2:=ht k b q hk hb hq'
  have t3:=ht a k q ha hk hq'
  omega
noncomputable def eG (M:List (List Int)):List D:=M.map fun r=>.tup (r.map .int)
theorem nY {n:Nat} {M:List (List Int)} (h:Mat n M) {i j:Nat} (hi:i < n) (hj:j < n):kv (eG M) i j=mg2 M i j:=by
 obtain ⟨r,e1,_,e2,_,_⟩:=h.at hi hj
 unfold kv eG
 rw [List.getElem?_map,e1]
 show (match (r.map D.int)[j]? with | some (.int i)=>i | _=>0)=_
 rw [List.getElem?_map,e2]
 rfl
theorem xl {n:Nat} {M:List (List Int)} (h:Mat n M) (h1:1<=n) (h4:n<=4) (ht:kx n n M):bR (.tup (eG M))=true:=by
 have hl:(eG M).length=n:=by unfold eG;rw [List.length_map,h.len]
 unfold bR
 dsimp only
 rw [hl]
 simp only [bAE,decide_eq_true_eq]
 refine ⟨⟨h1,h4⟩,?_,?_⟩
 ·rw [List.all_eq_true]
  intro d hd
  obtain ⟨r,hr,rfl⟩:=List.mem_map.mp hd
  unfold gG
  dsimp only
  rw [bAE]
  refine ⟨decide_eq_true (by rw [List.length_map];exact h.row r hr),?_⟩
  rw [List.all_map,List.all_eq_true]
  intro x hx
  have:=h.ent r hr x hx
  show ax (.int x) 1 99=true
  simp only [ax,bAE,decide_eq_true_eq]
  omega
 ·rw [List.all_eq_true]
  intro x hx
  unfold uW at hx
  obtain ⟨a,ha,hx⟩:=List.mem_flatMap.mp hx
  obtain ⟨b,hb,hx⟩:=List.mem_flatMap.mp hx
  obtain ⟨c,hc,rfl⟩:=List.mem_map.mp hx
  rw [List.mem_range] at ha hb hc
  show rp (eG M) a b c=true
  unfold rp
  rw [nY h ha hb,nY h ha hc,nY h hc hb]
  exact decide_eq_true (ht a b c ha hb hc)
noncomputable def aQ (M:List (List Int)) (n c i:Nat):List Int:=(List.range n).map fun j=>if mg2 M i c+mg2 M c j < mg2 M i j then mg2 M i c+mg2 M c j else mg2 M i j
theorem pK (M:List (List Int)) (n c i:Nat):(aQ M n c i).length=n:=by unfold aQ;rw [List.length_map,List.length_range]
theorem pL (M:List (List Int)) {n c i j:Nat} (hj:j < n):(aQ M n c i)[j]?=some (if mg2 M i c+mg2 M c j < mg2 M i j then mg2 M i c+mg2 M c j else mg2 M i j):=by
 unfold aQ;rw [List.getElem?_map,List.getElem?_range hj];rfl
theorem AG {n c:Nat} {M:List (List Int)} (h:Mat n M) (hc:c < n):∀ i j,i < n->j < n->mg2 ((List.range n).map (aQ M n c)) i j=min (mg2 M i j) (mg2 M i c+mg2 M c j):=fun i j hi hj=>by
 have e:mg2 ((List.range n).map (aQ M n c)) i j=if mg2 M i c+mg2 M c j < mg2 M i j then mg2 M i c+mg2 M c j else mg2 M i j:=by
  show ((((List.range n).map (aQ M n c))[i]?.getD [])[j]?).getD 0=_
  rw [List.getElem?_map,List.getElem?_range hi]
  show ((aQ M n c i)[j]?).getD 0=_
  rw [pL M hj];rfl
 rw [e];split <;> omega
theorem xm {n c:Nat} {M:List (List Int)} (h:Mat n M) (hc:c < n):Mat n ((List.range n).map (aQ M n c)):=by
 refine ⟨by rw [List.length_map,List.length_range],fun r hr=>?_,fun r hr x hx=>?_⟩
 ·obtain ⟨u,_,rfl⟩:=List.mem_map.mp hr
  exact pK M n c u
 ·obtain ⟨u,hu,rfl⟩:=List.mem_map.mp hr
  rw [List.mem_range] at hu
  unfold aQ at hx
  obtain ⟨j,hj,rfl⟩:=List.mem_map.mp hx
  rw [List.mem_range] at hj
  obtain ⟨_,_,_,_,p1,q1⟩:=h.at hu hj
  obtain ⟨_,_,_,_,p2,q2⟩:=h.at hu hc
  obtain ⟨_,_,_,_,p3,q3⟩:=h.at hc hj
  split <;> omega
theorem DN (r s g h:D):bH (.tup [r,s,g,h])=(ax r 0 8 && (ax s 0 60 && (bR g && bw h))):=rfl
theorem rB {ds:List D} (h:¬ ds.length=2):aY (.tup ds)=false:=by
 unfold aY
 split
 ·rename_i b e heq
  cases heq
  exact absurd rfl h
 ·rfl
end Dw
namespace Dw
open PySem PySem.Spec PyProof.Rows L2
noncomputable def xn (d:D):Int:=match d with | .int i=>i | _=>0
noncomputable def bh (fs:List D):List Int:=fs.map xn
theorem rC (fs:List D):(bh fs).length=fs.length:=by unfold bh;rw [List.length_map]
theorem fE:∀ (n:Nat) (l:List Int),l.Nodup->(∀ x ∈ l,0<=x/\x < (n:Int))->l.length<=n
 | 0,l,_,h=>by
  cases l with
  | nil=>exact Nat.le_refl _
  | cons x l=>have:=h x List.mem_cons_self;omega
 | n+1,l,nd,h=>by
  by_cases hm:(n:Int) ∈ l
  ·have ih:=fE n (l.erase n) (nd.erase _) fun x hx=>by
    have h1:=h x (List.mem_of_mem_erase hx)
    have h2:x ≠ (n:Int):=fun e=>(List.Nodup.not_mem_erase nd) (e ▸ hx)
    omega
   rw [List.length_erase_of_mem hm] at ih
   have:=List.length_pos_of_mem hm
   omega
  ·have ih:=fE n l nd fun x hx=>by
    have h1:=h x hx
    have h2:x ≠ (n:Int):=fun e=>hm (e ▸ hx)
    omega
   omega
noncomputable def ir (is:List Int):Bool:=decide is.Nodup
theorem pM (is:List Int):(is.map fun i=>decide (((is.count i:Nat):Int)=1)).all id=ir is:=by
 rw [Bool.eq_iff_iff,List.all_map]
 unfold ir
 rw [List.all_eq_true,decide_eq_true_eq,List.nodup_iff_count]
 constructor
 ·intro h a
  by_cases hm:a ∈ is
  ·have:=of_decide_eq_true (h a hm)
   omega
  ·rw [List.count_eq_zero_of_not_mem hm];omega
 ·intro h a ha
  have h1:=h a
  have h2:=List.count_pos_iff.mpr ha
  exact decide_eq_true (by omega)
noncomputable def cr (n:Nat) (d:D):Bool:=match d with
 | .tup fs=>decide (fs.length<=n) && (fs.all (fun e=>ax e 0 ((n:Int) - 1)) && ir (bh fs))
 | _=>false
noncomputable def cC (n:Nat) (d:D):Bool:=match d with
 | .non=>true
 | .tup [k,m]=>ax k 0 ((n:Int) - 1) && ax m 0 9999
 | _=>false
noncomputable def leD (j:D) (s:Int) (f:D):Bool:=match j,f with | .int a,.int b=>decide (a+s<=b) | _,_=>false
noncomputable def bg (n:Nat) (r s:Int) (d:D):Bool:=match d with
 | .tup [k,j,f,l,u,w,g]=>[j,f,l,u].all (fun e=>ax e 0 9999) && ((leD j s f && leD f 0 l) && (ax k 0 ((n:Int) - 1) && (ax w 0 99 && ax g 0 r)))
 | _=>false
noncomputable def bj (n:Nat) (r s:Int) (d:D):Bool:=match d with
 | .tup gs=>decide (gs.length<=7) && gs.all (bg n r s)
 | _=>false
noncomputable def Fd (d:D):Int:=match d with | .tup [_,_,_,_,_,_,.int g]=>g | _=>0
noncomputable def fF (gs:List D) (i:Nat):Int:=match gs[i]? with | some d=>Fd d | _=>0
noncomputable def AH (gs:List D) (is:List Int):List Bool:=(List.range gs.length).map fun (i:Nat)=>decide (fF gs i=0) || decide (((i:Nat):Int) ∈ is)
noncomputable def cI (gs:List D) (d:D):Bool:=match d with
 | .tup fs=>cr gs.length (.tup fs) && (AH gs (bh fs)).all id
 | _=>false
noncomputable def tupOf (d:D):List D:=match d with | .tup ds=>ds | _=>[]
noncomputable def gh (m:D):Nat:=match m with | .tup [_,_,.tup aU,_]=>aU.length | _=>0
noncomputable def jX (m:D):Int:=match m with | .tup [.int r,_,_,_]=>r | _=>0
noncomputable def nZ (m:D):Int:=match m with | .tup [_,.int s,_,_]=>s | _=>0
noncomputable def kC (d:D):Bool:=match d with
 | .tup [m,a,g,f]=>bH m && (cC (gh m) a && (bj (gh m) (jX m) (nZ m) g && cI (tupOf g) f))
 | _=>false
theorem uX {m:D} (h:bH m=true):∃ r s aU hs,m = .tup [.int r,.int s,.tup aU,.tup hs]/\0<=r/\r<=8/\0<=s/\s<=60/\bR (.tup aU)=true/\bw (.tup hs)=true:=by
 unfold bH at h
 split at h
 ·rename_i r s g hh
  simp only [bAE] at h
  obtain ⟨h1,h2,h3,h4⟩:=h
  obtain ⟨r,rfl,r0,r1⟩:=ay h1
  obtain ⟨s,rfl,s0,s1⟩:=ay h2
  cases g with
  | tup aU=>
   cases hh with
   | tup hs=>exact ⟨r,s,aU,hs,rfl,r0,r1,s0,s1,h3,h4⟩
   | _=>simp [bw] at h4
  | _=>simp [bR] at h3
 ·cases h
theorem xo {ds:List D} (h:ds.length=7):∃ a b c d e f g,ds=[a,b,c,d,e,f,g]:=by
 match ds,h with
 | [a,b,c,d,e,f,g],_=>exact ⟨a,b,c,d,e,f,g,rfl⟩
theorem uY {n:Nat} {r s:Int} {d:D} (h:bg n r s d=true):∃ k j f l u w g:Int,d = .tup [.int k,.int j,.int f,.int l,.int u,.int w,.int g]/\0<=k/\k < n/\0<=j/\j<=9999/\0<=f/\f<=9999/\0<=l/\l<=9999/\0<=u/\u<=9999/\j+s<=f/\f<=l/\0<=w/\w<=99/\0<=g/\g<=r:=by
 unfold bg at h
 split at h
 ·rename_i k j f l u w g
  simp only [bAE,List.all_cons,List.all_nil,Bool.and_true] at h
  obtain ⟨⟨a1,a2,a3,a4⟩,⟨b1,b2⟩,c1,c2,c3⟩:=h
  obtain ⟨j,rfl,j0,j1⟩:=ay a1
  obtain ⟨f,rfl,f0,f1⟩:=ay a2
  obtain ⟨l,rfl,l0,l1⟩:=ay a3
  obtain ⟨u,rfl,u0,u1⟩:=ay a4
  obtain ⟨k,rfl,k0,k1⟩:=ay c1
  obtain ⟨w,rfl,w0,w1⟩:=ay c2
  obtain ⟨g,rfl,g0,g1⟩:=ay c3
  simp only [leD,decide_eq_true_eq] at b1 b2
  exact ⟨k,j,f,l,u,w,g,rfl,k0,by omega,j0,j1,f0,f1,l0,l1,u0,u1,b1,by omega,w0,w1,g0,g1⟩
 ·cases h
theorem uZ {n:Nat} {r s:Int} {ds:List D} (h:¬ ds.length=7):bg n r s (.tup ds)=false:=by
 unfold bg
 split
 ·rename_i heq;cases heq;exact absurd rfl h
 ·rfl
theorem xq {n:Nat} {ds:List D} (h:¬ ds.length=2):cC n (.tup ds)=false:=by
 unfold cC
 split
 ·rename_i heq;cases heq
 ·rename_i heq;cases heq;exact absurd rfl h
 ·rfl
theorem Fe {ds:List D} (h:¬ ds.length=4):kC (.tup ds)=false:=by
 unfold kC
 split
 ·rename_i heq;cases heq;exact absurd rfl h
 ·rfl
theorem Ff (ds:List D):isT (.tup ds) 7 7=decide (ds.length=7):=nV ds 7
theorem xr (ds:List D) (n:Nat):isT (.tup ds) 0 n=decide (ds.length<=n):=by
 unfold isT
 rw [Bool.eq_iff_iff];simp
theorem xt (m a g f:D):kC (.tup [m,a,g,f])=(bH m && (cC (gh m) a && (bj (gh m) (jX m) (nZ m) g && cI (tupOf g) f))):=rfl
end Dw
namespace Dw
open PySem PySem.Spec PyProof.Rows L2
theorem ve {n:Nat} {d:D}:ax d 0 ((n:Int) - 1)=true->∃ i,d = .int i/\0<=i/\i < n:=fun h=>by
 obtain ⟨i,e,h0,h1⟩:=ay h
 exact ⟨i,e,h0,by omega⟩
theorem jy {n:Nat} {fs:List D} (h:fs.all (fun e=>ax e 0 ((n:Int) - 1))=true) (nd:(bh fs).Nodup):cr n (.tup fs)=true:=by
 have hl:fs.length<=n:=by
  have:=fE n (bh fs) nd fun x hx=>by
   obtain ⟨d,hd,rfl⟩:=List.mem_map.mp hx
   obtain ⟨i,rfl,h0,h1⟩:=ve (List.all_eq_true.mp h d hd)
   exact ⟨h0,h1⟩
  rwa [rC] at this
 have:ir (bh fs)=true:=decide_eq_true nd
 simp only [cr,this,h,decide_eq_true hl,Bool.and_true]
theorem AI {n:Nat} {r s:Int} {gs:List D} (h:gs.all (bg n r s)=true) {i:Nat} {d:D} (hi:gs[i]?=some d):∃ k j f l u w g:Int,d = .tup [.int k,.int j,.int f,.int l,.int u,.int w,.int g]/\fF gs i=g/\0<=g:=by
 obtain ⟨k,j,f,l,u,w,g,rfl,h1⟩:=uY (List.all_eq_true.mp h d (List.mem_of_getElem? hi))
 exact ⟨k,j,f,l,u,w,g,rfl,by unfold fF;rw [hi];rfl,by omega⟩
theorem iu (ds:List D) (k:Nat) (hk:k<=ds.length):gC ds none (some (k:Int))=ds.take k:=by
 unfold gC
 rw [rA _ _ (by omega)]
 show (ds.drop 0).take (min ((k:Int).toNat) ds.length - 0)=_
 rw [List.drop_zero,Nat.sub_zero,Int.toNat_natCast,Nat.min_eq_left hk]
end Dw
namespace Dw
open PySem PySem.Spec PyProof.Rows L2
mutual
noncomputable def bnd (B:Nat):D->Prop
 | .int i=>i.natAbs < B
 | .tup ds=>AJ B ds
 | .lst ds=>AJ B ds
 | .dic ks ds=>(∀ k ∈ ks,∃ i,k=Sum.inl i/\i.natAbs < B)/\ks.length=ds.length/\AJ B ds
 | _=>True
noncomputable def AJ (B:Nat):List D->Prop
 | []=>True
 | d::ds=>bnd B d/\AJ B ds
end
end Dw
namespace Ev
open PySem PySem.Spec PyProof.Rows L2
inductive D where
 | non | bl (b:Bool) | int (i:Int) | str (x:Str) | tup (ds:List D) | ref (n:Nat)
inductive Ob where
 | lst (ds:List D) | frz (ds:List D) | dic (ks:List Key) (ds:List D)
noncomputable abbrev Sto:=List Ob
noncomputable abbrev Rho:=List (Option D)
mutual
noncomputable def VD (K:PySem.W.Frag) (m:List Addr) (H:Hp):D->V->Prop
 | .non,v=>v = .non
 | .bl b,v=>v = .bl b
 | .int i,v=>v = .int i
 | .str x,v=>v = .str x
 | .tup ds,v=>∃ a xs,v = .ref a/\H a=some (.tup xs)/\VDs K m H ds xs
 | .ref n,v=>∃ a,m[n]?=some a/\v = .ref a
noncomputable def VDs (K:PySem.W.Frag) (m:List Addr) (H:Hp):List D->List V->Prop
 | [],xs=>xs=[]
 | d::ds,xs=>∃ x r,xs=x::r/\VD K m H d x/\VDs K m H ds r
end
structure Ext (m:List Addr) (H:Hp) (m':List Addr) (H':Hp):Prop where
 pre:m <+: m'
 keep:∀ a o,H a=some o->a ∉ m->H' a=some o
 new:∀ a,a ∈ m'->a ∉ m->H a=none
noncomputable def ObR (K:PySem.W.Frag) (m:List Addr) (H:Hp) (a:Addr):Ob->Prop
 | .lst ds=>∃ vs,H a=some (.lst vs)/\VDs K m H ds vs
 | .frz ds=>∃ o vs,H a=some (.frz o (.lst vs))/\VDs K m H ds vs
 | .dic ks ds=>∃ vs,H a=some (.dK (ks.zip vs))/\ks.length=ds.length/\VDs K m H ds vs
structure Rel (K:PySem.W.Frag) (m:List Addr) (S:Sto) (H:Hp):Prop where
 len:m.length=S.length
 nd:m.Nodup
 ob:∀ (i:Nat) (o:Ob),S[i]?=some o->∃ a,m[i]?=some a/\ObR K m H a o
structure EnvR (K:PySem.W.Frag) (m:List Addr) (H:Hp) (ρ:Rho) (σ:L2.St):Prop where
 len:ρ.length=σ.length
 at_:∀ (i:Nat) (d:D),ρ[i]?=some (some d)->∃ v,σ[i]?=some (some v)/\VD K m H d v
theorem Ext.refl (m:List Addr) (H:Hp):Ext m H m H:=⟨List.prefix_refl m,fun _ _ h _=>h,fun _ h n=>absurd h n⟩
theorem Ext.trans {m m1 m2:List Addr} {H H1 H2:Hp} (x:Ext m H m1 H1) (y:Ext m1 H1 m2 H2):Ext m H m2 H2:=by
 refine ⟨x.pre.trans y.pre,fun a o h n=>?_,fun a h n=>?_⟩
 ·have n1:a ∉ m1:=fun z=>by have:=x.new a z n;rw [this] at h;cases h
  exact y.keep a o (x.keep a o h n) n1
 ·by_cases h1:a ∈ m1
  ·exact x.new a h1 n
  ·cases e:H a with
   | none=>rfl
   | some o=>
    have:=x.keep a o e n
    rw [y.new a h h1] at this;cases this
section
variable {K:PySem.W.Frag} {m m':List Addr} {S S':Sto} {H H':Hp} {a:Addr}
theorem Rel.ex (R:Rel K m S H) (ha:a ∈ m):∃ o ob,H a=some o/\ObR K m H a ob:=by
 obtain ⟨i,hi,e⟩:=List.getElem_of_mem ha
 have hi':i < S.length:=by rw [<-R.len];exact hi
 obtain ⟨b,hb,r⟩:=R.ob i S[i] (gEG hi')
 have:b=a:=by rw [gEG hi] at hb;rw [<-e];exact (Option.some.inj hb).symm
 subst this
 cases hS:S[i] with
 | lst ds=>rw [hS] at r;obtain ⟨vs,h,q⟩:=r;exact ⟨_,.lst ds,h,vs,h,q⟩
 | frz ds=>rw [hS] at r;obtain ⟨o,vs,h,q⟩:=r;exact ⟨_,.frz ds,h,o,vs,h,q⟩
 | dic ks ds=>rw [hS] at r;obtain ⟨vs,h,q⟩:=r;exact ⟨_,.dic ks ds,h,vs,h,q⟩
theorem Rel.no (R:Rel K m S H) (h:H a=none):a ∉ m:=fun z=>by
 obtain ⟨o,_,e,_⟩:=R.ex z
 rw [h] at e;cases e
theorem Rel.notTup (R:Rel K m S H) {xs:List V} (h:H a=some (.tup xs)):a ∉ m:=fun z=>by
 obtain ⟨o,ob,e,r⟩:=R.ex z
 cases ob with
 | lst ds=>obtain ⟨vs,q,_⟩:=r;rw [q] at h;cases h
 | frz ds=>obtain ⟨o,vs,q,_⟩:=r;rw [q] at h;cases h
 | dic ks ds=>obtain ⟨vs,q,_⟩:=r;rw [q] at h;cases h
theorem Tup.ext {xs:List V} (R:Rel K m S H) (x:Ext m H m' H') (h:H a=some (.tup xs)):H' a=some (.tup xs):=x.keep _ _ h (R.notTup h)
theorem jY {i:Nat} (h:m <+: m') (e:m[i]?=some a):m'[i]?=some a:=by
 obtain ⟨t,rfl⟩:=h
 have hi:i < m.length:=(List.getElem?_eq_some_iff.mp e).1
 rw [List.getElem?_append_left hi];exact e
mutual
theorem VD.mono0 (pre:m <+: m') (tk:∀ a xs,H a=some (.tup xs)->H' a=some (.tup xs)):∀ {d:D} {v:V},VD K m H d v->VD K m' H' d v
 | .non,v,h=>by rw [VD] at h ⊢;exact h
 | .bl _,v,h=>by rw [VD] at h ⊢;exact h
 | .int _,v,h=>by rw [VD] at h ⊢;exact h
 | .str _,v,h=>by rw [VD] at h ⊢;exact h
 | .tup ds,v,h=>by
  rw [VD] at h ⊢
  obtain ⟨a,xs,e,q,r⟩:=h
  exact ⟨a,xs,e,tk a xs q,VDs.mono0 pre tk r⟩
 | .ref n,v,h=>by
  rw [VD] at h ⊢
  obtain ⟨a,q,e⟩:=h
  exact ⟨a,jY pre q,e⟩
theorem VDs.mono0 (pre:m <+: m') (tk:∀ a xs,H a=some (.tup xs)->H' a=some (.tup xs)):∀ {ds:List D} {vs:List V},VDs K m H ds vs->VDs K m' H' ds vs
 | [],vs,h=>by rw [VDs] at h ⊢;exact h
 | d::ds,vs,h=>by
  rw [VDs] at h ⊢
  obtain ⟨y,r,e,p,q⟩:=h
  exact ⟨y,r,e,VD.mono0 pre tk p,VDs.mono0 pre tk q⟩
end
theorem VD.mono (R:Rel K m S H) (x:Ext m H m' H') {d:D} {v:V} (h:VD K m H d v):VD K m' H' d v:=VD.mono0 x.pre (fun _ _=>Tup.ext R x) h
theorem VDs.mono (R:Rel K m S H) (x:Ext m H m' H') {ds:List D} {vs:List V} (h:VDs K m H ds vs):VDs K m' H' ds vs:=VDs.mono0 x.pre (fun _ _=>Tup.ext R x) h
theorem EnvR.mono {ρ:Rho} {σ:L2.St} (R:Rel K m S H) (x:Ext m H m' H') (h:EnvR K m H ρ σ):EnvR K m' H' ρ σ:=
 ⟨h.len,fun i d e=>let ⟨v,p,q⟩:=h.at_ i d e;⟨v,p,VD.mono R x q⟩⟩
theorem VDs.length:∀ {ds:List D} {vs:List V},VDs K m H ds vs->ds.length=vs.length
 | [],vs,h=>by rw [VDs] at h;rw [h];rfl
 | d::ds,vs,h=>by
  rw [VDs] at h
  obtain ⟨y,r,e,_,q⟩:=h
  rw [e,List.length_cons,List.length_cons,VDs.length q]
theorem VDs.nil:VDs K m H [] []:=by rw [VDs]
theorem VDs.cons {d:D} {v:V} {ds:List D} {vs:List V} (h:VD K m H d v) (t:VDs K m H ds vs):VDs K m H (d::ds) (v::vs):=by rw [VDs];exact ⟨v,vs,rfl,h,t⟩
theorem VDs.get:∀ {ds:List D} {vs:List V} {i:Nat} {d:D},VDs K m H ds vs->ds[i]?=some d->∃ v,vs[i]?=some v/\VD K m H d v
 | [],_,_,_,_,e=>by simp at e
 | d::ds,vs,0,d',h,e=>by
  rw [VDs] at h
  obtain ⟨y,r,rfl,p,q⟩:=h
  simp at e;subst e
  exact ⟨y,rfl,p⟩
 | d::ds,vs,i+1,d',h,e=>by
  rw [VDs] at h
  obtain ⟨y,r,rfl,p,q⟩:=h
  obtain ⟨v,p1,p2⟩:=VDs.get (i:=i) q (by simpa using e)
  exact ⟨v,by simpa using p1,p2⟩
theorem VDs.append:∀ {ds es:List D} {vs ws:List V},VDs K m H ds vs->VDs K m H es ws->VDs K m H (ds++es) (vs++ws)
 | [],_,vs,_,h,t=>by rw [VDs] at h;subst h;exact t
 | d::ds,es,vs,ws,h,t=>by
  rw [VDs] at h
  obtain ⟨y,r,rfl,p,q⟩:=h
  exact .cons p (VDs.append q t)
theorem VDs.drop:∀ {ds:List D} {vs:List V} (n:Nat),VDs K m H ds vs->VDs K m H (ds.drop n) (vs.drop n)
 | ds,vs,0,h=>h
 | [],vs,n+1,h=>by rw [VDs] at h;subst h;exact .nil
 | d::ds,vs,n+1,h=>by
  rw [VDs] at h
  obtain ⟨y,r,rfl,p,q⟩:=h
  exact VDs.drop n q
theorem VDs.take:∀ {ds:List D} {vs:List V} (n:Nat),VDs K m H ds vs->VDs K m H (ds.take n) (vs.take n)
 | ds,vs,0,h=>by simp only [List.take_zero];exact .nil
 | [],vs,n+1,h=>by rw [VDs] at h;subst h;exact .nil
 | d::ds,vs,n+1,h=>by
  rw [VDs] at h
  obtain ⟨y,r,rfl,p,q⟩:=h
  exact .cons p (VDs.take n q)
theorem VDs.set:∀ {ds:List D} {vs:List V} {i:Nat} {d:D} {v:V},VDs K m H ds vs->VD K m H d v->VDs K m H (ds.set i d) (vs.set i v)
 | [],vs,_,_,_,h,_=>by rw [VDs] at h;subst h;exact .nil
 | _::ds,vs,0,d,v,h,p=>by
  rw [VDs] at h
  obtain ⟨y,r,rfl,_,q⟩:=h
  exact .cons p q
 | _::ds,vs,i+1,d,v,h,p=>by
  rw [VDs] at h
  obtain ⟨y,r,rfl,p',q⟩:=h
  exact .cons p' (VDs.set q p)
theorem Ext.beside (R:Rel K m S H) (h:H a=none) (o:HO):Ext m H m (upd H a o):=
 ⟨List.prefix_refl m,fun b u e _=>by rw [aC (aP e h)];exact e,fun b z n=>absurd z n⟩
theorem Rel.ext_keep (R:Rel K m S H) (x:Ext m H m H') (k:∀ b ∈ m,H' b=H b):Rel K m S H':=by
 refine ⟨R.len,R.nd,fun i o e=>?_⟩
 obtain ⟨b,hb,r⟩:=R.ob i o e
 have hm:b ∈ m:=List.mem_of_getElem? hb
 refine ⟨b,hb,?_⟩
 cases o with
 | lst ds=>obtain ⟨vs,p,q⟩:=r;exact ⟨vs,(k b hm).trans p,VDs.mono R x q⟩
 | frz ds=>obtain ⟨o,vs,p,q⟩:=r;exact ⟨o,vs,(k b hm).trans p,VDs.mono R x q⟩
 | dic ks ds=>obtain ⟨vs,p,l,q⟩:=r;exact ⟨vs,(k b hm).trans p,l,VDs.mono R x q⟩
theorem Rel.beside (R:Rel K m S H) (h:H a=none) (o:HO):Rel K m S (upd H a o):=
 R.ext_keep (Ext.beside R h o) fun b hb=>aC fun z=>R.no h (z ▸ hb)
theorem Rel.adopt (R:Rel K m S H) (n:a ∉ m) {vs:List V} {ds:List D} (h:H a=some (.lst vs)) (q:VDs K m H ds vs):Rel K (m++[a]) (S++[.lst ds]) H:=by
 have p:=List.prefix_append m [a]
 have g:∀ {es:List D} {ws:List V},VDs K m H es ws->VDs K (m++[a]) H es ws:=fun z=>VDs.mono0 p (fun _ _ t=>t) z
 refine ⟨by simp [R.len],List.nodup_append.mpr ⟨R.nd,by simp,fun x hx y hy=>by simp at hy;subst hy;exact fun z=>n (z ▸ hx)⟩,fun i o e=>?_⟩
 by_cases hi:i < S.length
 ·rw [List.getElem?_append_left hi] at e
  obtain ⟨b,hb,r⟩:=R.ob i o e
  refine ⟨b,jY p hb,?_⟩
  cases o with
  | lst ds=>obtain ⟨vs,p,q⟩:=r;exact ⟨vs,p,g q⟩
  | frz ds=>obtain ⟨o,vs,p,q⟩:=r;exact ⟨o,vs,p,g q⟩
  | dic ks ds=>obtain ⟨vs,p,l,q⟩:=r;exact ⟨vs,p,l,g q⟩
 ·rw [List.getElem?_append_right (by omega)] at e
  have hz:i - S.length=0:=by
   have:=(List.getElem?_eq_some_iff.mp e).1
   simp at this;omega
  rw [hz] at e
  have e':Ob.lst ds=o:=by simpa using e
  subst e'
  refine ⟨a,?_,vs,h,g q⟩
  rw [List.getElem?_append_right (by rw [R.len];omega),R.len,hz];rfl
theorem Ext.adopt (x:Ext m H m H') (h:H a=none):Ext m H (m++[a]) H':=
 ⟨List.prefix_append m [a],x.keep,fun b hb nb=>by
  rcases List.mem_append.mp hb with z | z
  ·exact absurd z nb
  ·simp at z;subst z;exact h⟩
theorem Rel.write (R:Rel K m S H) {i:Nat} (hi:m[i]?=some a) {vs:List V} {ds:List D} (q:VDs K m H ds vs):Ext m H m (upd H a (.lst vs))/\Rel K m (S.set i (.lst ds)) (upd H a (.lst vs)):=by
 have hm:a ∈ m:=List.mem_of_getElem? hi
 have x:Ext m H m (upd H a (.lst vs)):=⟨List.prefix_refl m,fun b u e n=>by rw [aC (show b ≠ a from fun z=>n (by rw [z];exact hm))];exact e,fun b z n=>absurd z n⟩
 refine ⟨x,by simp [R.len],R.nd,fun j o e=>?_⟩
 rw [List.getElem?_set] at e
 by_cases hj:i=j
 ·subst hj
  rw [if_pos rfl] at e
  split at e
  ·have e':=Option.some.inj e
   subst e'
   exact ⟨a,hi,vs,bf,VDs.mono R x q⟩
  ·cases e
 ·rw [if_neg hj] at e
  obtain ⟨b,hb,r⟩:=R.ob j o e
  have ne:b ≠ a:=fun z=>by
   subst z
   have h1:=List.getElem?_eq_some_iff.mp hi
   have h2:=List.getElem?_eq_some_iff.mp hb
   exact hj ((List.getElem_inj R.nd).mp (h1.2.trans h2.2.symm))
  refine ⟨b,hb,?_⟩
  cases o with
  | lst es=>obtain ⟨ws,p,q⟩:=r;exact ⟨ws,by rw [aC ne];exact p,VDs.mono R x q⟩
  | frz es=>obtain ⟨o,ws,p,q⟩:=r;exact ⟨o,ws,by rw [aC ne];exact p,VDs.mono R x q⟩
  | dic ks es=>obtain ⟨ws,p,l,q⟩:=r;exact ⟨ws,by rw [aC ne];exact p,l,VDs.mono R x q⟩
theorem Rel.lst (R:Rel K m S H) {i:Nat} {ds:List D} (e:S[i]?=some (.lst ds)):∃ a vs,m[i]?=some a/\H a=some (.lst vs)/\VDs K m H ds vs:=by
 obtain ⟨a,ha,vs,p,q⟩:=R.ob i _ e
 exact ⟨a,vs,ha,p,q⟩
end
noncomputable def aj (S:Sto) (n:Nat):Option (List D):=match S[n]? with
 | some (.lst ds)=>some ds
 | some (.frz ds)=>some ds
 | _=>none
theorem Rel.seq {K:PySem.W.Frag} {m:List Addr} {S:Sto} {H:Hp} (R:Rel K m S H) {i:Nat} {ds:List D} (e:aj S i=some ds):∃ a vs,m[i]?=some a/\SqL K H a vs/\VDs K m H ds vs:=by
 unfold aj at e
 cases h:S[i]? with
 | none=>rw [h] at e;cases e
 | some o=>
  rw [h] at e
  cases o with
  | lst es=>cases e;obtain ⟨a,ha,vs,p,q⟩:=R.ob i _ h;exact ⟨a,vs,ha,.inl (.inl p),q⟩
  | frz es=>cases e;obtain ⟨a,ha,o,vs,p,q⟩:=R.ob i _ h;exact ⟨a,vs,ha,.inl (.inr ⟨o,p⟩),q⟩
  | dic ks es=>cases e
end Ev
namespace Ev
open PySem PySem.Spec PyProof.Rows L2
noncomputable abbrev XE:=Rho->Sto->Option (D × Sto)
noncomputable abbrev XT:=Rho->Sto->Option (Bool × Sto)
noncomputable abbrev XA:=Rho->Sto->Option (List D × Sto)
noncomputable def bnd {α β:Type} (x:Option (α × Sto)) (f:α->Sto->Option (β × Sto)):Option (β × Sto):=match x with
 | none=>none
 | some (a,S)=>f a S
theorem ab {α β:Type} {x:Option (α × Sto)} {f:α->Sto->Option (β × Sto)} {r:β × Sto} (h:bnd x f=some r):∃ a S,x=some (a,S)/\f a S=some r:=by
 unfold bnd at h
 cases x with
 | none=>cases h
 | some p=>exact ⟨p.1,p.2,rfl,h⟩
structure Aft (K:PySem.W.Frag) (m:List Addr) (H:Hp) (S':Sto) (m':List Addr) (H':Hp):Prop where
 ext:Ext m H m' H'
 rel:Rel K m' S' H'
noncomputable def tE (K:PySem.W.Frag) (x:XE):TE:=fun σ H Q=>∃ m ρ S d S',EnvR K m H ρ σ/\Rel K m S H/\x ρ S=some (d,S')/\∀ m' H' v,Aft K m H S' m' H'->VD K m' H' d v->Q v H'
noncomputable def tT (K:PySem.W.Frag) (x:XT):TT:=fun σ H Q=>∃ m ρ S b S',EnvR K m H ρ σ/\Rel K m S H/\x ρ S=some (b,S')/\∀ m' H',Aft K m H S' m' H'->Q b H'
noncomputable def tAr (K:PySem.W.Frag) (x:XA):TA:=fun σ H Q=>∃ m ρ S ds S',EnvR K m H ρ σ/\Rel K m S H/\x ρ S=some (ds,S')/\∀ m' H' vs,Aft K m H S' m' H'->VDs K m' H' ds vs->Q vs H'
noncomputable def SqB (K:PySem.W.Frag) (tu:Bool) (H:Hp) (a:Addr) (vs:List V):Prop:=if tu=true then H a=some (.tup vs) else SqL K H a vs
noncomputable def eI (K:PySem.W.Frag) (x:XA):TE:=fun σ H Q=>∃ m ρ S ds S',EnvR K m H ρ σ/\Rel K m S H/\x ρ S=some (ds,S')/\∀ m' H' a vs,Aft K m H S' m' H'->H' a=some (.lst vs)->a ∉ m'->(∀ b,b ∈ m->b ≠ a)->H a=none->VDs K m' H' ds vs->Q (.ref a) H'
section
variable {X:Cx} {e:Expr} {K:PySem.W.Frag} {m m1 m2:List Addr} {H H1 H2:Hp} {S S1 S2:Sto}
theorem PE.imp {t t':TE} (h:PE X e t) (f:∀ σ H Q,t' σ H Q->t σ H Q):PE X e t':=fun pins s σ H Q I q=>h pins s σ H Q I (f σ H Q q)
theorem PT.imp {t t':TT} (h:PT X e t) (f:∀ σ H Q,t' σ H Q->t σ H Q):PT X e t':=fun pins s σ H Q I q=>h pins s σ H Q I (f σ H Q q)
theorem PA.imp {es:List Expr} {t t':TA} (h:PA X es t) (f:∀ σ H Q,t' σ H Q->t σ H Q):PA X es t':=fun p pins s σ H Q I q=>h p pins s σ H Q I (f σ H Q q)
theorem PS.imp {st:Stmt} {t t':TS} (h:PS X st t) (f:∀ D σ H,t' D σ H->t D σ H):PS X st t':=fun pins s σ H D I q=>h pins s σ H D I (f D σ H q)
theorem PSs.imp {st:List Stmt} {t t':TS} (h:PSs X st t) (f:∀ D σ H,t' D σ H->t D σ H):PSs X st t':=fun pins s σ H D I q=>h pins s σ H D I (f D σ H q)
theorem PI.imp {tg it:Expr} {t t':TI} (h:PI X tg it t) (f:∀ σ H Q,t' σ H Q->t σ H Q):PI X tg it t':=fun pins s σ H Q I q=>h pins s σ H Q I (f σ H Q q)
theorem PI.or {tg it:Expr} {t t':TI} (h:PI X tg it t) (h':PI X tg it t'):PI X tg it (fun σ H Q=>t σ H Q\/t' σ H Q):=fun pins s σ H Q I q=>q.elim (h pins s σ H Q I) (h' pins s σ H Q I)
theorem OpR.imp {f:Value->Value->Sem Value} {r r':R2} (h:OpR X f r) (g:∀ x y H Q,r' x y H Q->r x y H Q):OpR X f r':=fun pins s σ H x y v u Q I rx ry q=>h pins s σ H x y v u Q I rx ry (g _ _ _ _ q)
theorem OpR.or {f:Value->Value->Sem Value} {r r':R2} (h:OpR X f r) (h':OpR X f r'):OpR X f (fun x y H Q=>r x y H Q\/r' x y H Q):=fun pins s σ H x y v u Q I rx ry q=>
 q.elim (h pins s σ H x y v u Q I rx ry) (h' pins s σ H x y v u Q I rx ry)
theorem aZ.imp {f:Value} {r r':List V->Hp->VK->Prop} (h:aZ X f r) (g:∀ x H Q,r' x H Q->r x H Q):aZ X f r':=fun pins s σ H xs us Q I rx q=>h pins s σ H xs us Q I rx (g _ _ _ q)
theorem aZ.or {f:Value} {r r':List V->Hp->VK->Prop} (h:aZ X f r) (h':aZ X f r'):aZ X f (fun x H Q=>r x H Q\/r' x H Q):=fun pins s σ H xs us Q I rx q=>
 q.elim (h pins s σ H xs us Q I rx) (h' pins s σ H xs us Q I rx)
theorem Aft.refl (R:Rel K m S H):Aft K m H S m H:=⟨Ext.refl m H,R⟩
theorem Aft.trans (x:Aft K m H S1 m1 H1) (y:Aft K m1 H1 S2 m2 H2):Aft K m H S2 m2 H2:=⟨x.ext.trans y.ext,y.rel⟩
noncomputable def rS (K:PySem.W.Frag) (f:D->D->Sto->Option (D × Sto)):R2:=fun v w H Q=>∃ m S a b d S',Rel K m S H/\VD K m H a v/\VD K m H b w/\f a b S=some (d,S')/\∀ m' H' u,Aft K m H S' m' H'->VD K m' H' d u->Q u H'
noncomputable def rS1 (K:PySem.W.Frag) (f:D->Sto->Option (D × Sto)):V->Hp->VK->Prop:=fun v H Q=>∃ m S a d S',Rel K m S H/\VD K m H a v/\f a S=some (d,S')/\∀ m' H' u,Aft K m H S' m' H'->VD K m' H' d u->Q u H'
noncomputable def rSA (K:PySem.W.Frag) (f:List D->Sto->Option (D × Sto)):List V->Hp->VK->Prop:=fun vs H Q=>∃ m S as d S',Rel K m S H/\VDs K m H as vs/\f as S=some (d,S')/\∀ m' H' u,Aft K m H S' m' H'->VD K m' H' d u->Q u H'
noncomputable def rSq (K:PySem.W.Frag) (f:Bool->List D->Sto->Option (D × Sto)):V->Hp->VK->Prop:=fun v H Q=>∃ m S tu ds a vs d S',Rel K m S H/\v = .ref a/\SqB K tu H a vs/\VDs K m H ds vs/\f tu ds S=some (d,S')/\∀ m' H' u,Aft K m H S' m' H'->VD K m' H' d u->Q u H'
noncomputable def pO (f:D->D->Sto->Option (D × Sto)) (x y:XE):XE:=fun ρ S=>bnd (x ρ S) fun a S1=>bnd (y ρ S1) fun b S2=>f a b S2
noncomputable def xUn (f:D->Sto->Option (D × Sto)) (x:XE):XE:=fun ρ S=>bnd (x ρ S) fun a S1=>f a S1
noncomputable def jS (f:List D->Sto->Option (D × Sto)) (x:XA):XE:=fun ρ S=>bnd (x ρ S) fun a S1=>f a S1
noncomputable def pP (f:Bool->List D->Sto->Option (D × Sto)) (x:XA):XE:=fun ρ S=>bnd (x ρ S) fun ds S1=>f false ds S1
noncomputable def ak (d:D) (S:Sto):Option (Bool × List D):=match d with
 | .tup ds=>some (true,ds)
 | .ref n=>(aj S n).map fun ds=>(false,ds)
 | _=>none
noncomputable def ad (f:Bool->List D->Sto->Option (D × Sto)) (d:D) (S:Sto):Option (D × Sto):=match ak d S with
 | some r=>f r.1 r.2 S
 | none=>none
noncomputable def pQ (f:Bool->List D->Sto->Option (D × Sto)) (x:XE):XE:=fun ρ S=>bnd (x ρ S) fun d S1=>ad f d S1
theorem n5 {f:D->D->Sto->Option (D × Sto)} {x y:XE} {σ:L2.St} {H:Hp} {Q:VK} (h:tE K (pO f x y) σ H Q):tOp (rS K f) (tE K x) (tE K y) σ H Q:=by
 obtain ⟨m,ρ,S,d,S',E,R,e,q⟩:=h
 obtain ⟨a,S1,e1,e⟩:=ab e
 obtain ⟨b,S2,e2,e⟩:=ab e
 refine ⟨m,ρ,S,a,S1,E,R,e1,fun m1 H1 v A1 va=>⟨m1,ρ,S1,b,S2,E.mono R A1.ext,A1.rel,e2,fun m2 H2 w A2 vb=>?_⟩⟩
 exact ⟨m2,S2,a,b,d,S',A2.rel,va.mono A1.rel A2.ext,vb,e,fun m3 H3 u A3 vd=>q m3 H3 u ((A1.trans A2).trans A3) vd⟩
theorem JH {f:D->Sto->Option (D × Sto)} {x:XE} {σ:L2.St} {H:Hp} {Q:VK} (h:tE K (xUn f x) σ H Q):tUn (rS1 K f) (tE K x) σ H Q:=by
 obtain ⟨m,ρ,S,d,S',E,R,e,q⟩:=h
 obtain ⟨a,S1,e1,e⟩:=ab e
 exact ⟨m,ρ,S,a,S1,E,R,e1,fun m1 H1 v A1 va=>⟨m1,S1,a,d,S',A1.rel,va,e,fun m3 H3 u A3 vd=>q m3 H3 u (A1.trans A3) vd⟩⟩
theorem xu {f:List D->Sto->Option (D × Sto)} {x:XA} {σ:L2.St} {H:Hp} {Q:VK} (h:tE K (jS f x) σ H Q):tCB (rSA K f) (tAr K x) σ H Q:=by
 obtain ⟨m,ρ,S,d,S',E,R,e,q⟩:=h
 obtain ⟨a,S1,e1,e⟩:=ab e
 exact ⟨m,ρ,S,a,S1,E,R,e1,fun m1 H1 v A1 va=>⟨m1,S1,a,d,S',A1.rel,va,e,fun m3 H3 u A3 vd=>q m3 H3 u (A1.trans A3) vd⟩⟩
theorem Fg {f:Bool->List D->Sto->Option (D × Sto)} {x:XA} {σ:L2.St} {H:Hp} {Q:VK} (h:tE K (pP f x) σ H Q):tUn (rSq K f) (eI K x) σ H Q:=by
 obtain ⟨m,ρ,S,d,S',E,R,e,q⟩:=h
 obtain ⟨ds,S1,e1,e⟩:=ab e
 exact ⟨m,ρ,S,ds,S1,E,R,e1,fun m1 H1 a vs A1 sq _ _ _ vd=>⟨m1,S1,false,ds,a,vs,d,S',A1.rel,rfl,show SqL K H1 a vs from SqL.of sq,vd,e,fun m3 H3 u A3 vd=>q m3 H3 u (A1.trans A3) vd⟩⟩
noncomputable def vf (i:Nat):XE:=fun ρ S=>match ρ[i]? with
 | some (some d)=>some (d,S)
 | _=>none
noncomputable def xC (d:D):XE:=fun _ S=>some (d,S)
theorem Fh {i:Nat} {σ:L2.St} {H:Hp} {Q:VK} (h:tE K (vf i) σ H Q):I0 i σ H Q:=by
 obtain ⟨m,ρ,S,d,S',E,R,e,q⟩:=h
 unfold vf at e
 cases hr:ρ[i]? with
 | none=>rw [hr] at e;cases e
 | some o=>
  rw [hr] at e
  cases o with
  | none=>cases e
  | some d'=>
   cases e
   obtain ⟨v,e1,vd⟩:=E.at_ i d hr
   exact ⟨v,e1,q m H v (Aft.refl R) vd⟩
theorem xv {v:V} {d:D} {σ:L2.St} {H:Hp} {Q:VK} (hv:∀ m H,VD K m H d v) (h:tE K (xC d) σ H Q):tC v σ H Q:=by
 obtain ⟨m,ρ,S,d',S',E,R,e,q⟩:=h
 cases e
 exact q m H v (Aft.refl R) (hv m H)
theorem n6:VD K m H .non .non:=by rw [VD]
theorem bN {b:Bool}:VD K m H (.bl b) (.bl b):=by rw [VD]
theorem bm {i:Int}:VD K m H (.int i) (.int i):=by rw [VD]
theorem rD {x:Str}:VD K m H (.str x) (.str x):=by rw [VD]
theorem kD {a:Addr} {vs:List V} {ds:List D} (h:H a=some (.tup vs)) (q:VDs K m H ds vs):VD K m H (.tup ds) (.ref a):=by rw [VD];exact ⟨a,vs,rfl,h,q⟩
theorem VD.ints {i:Int} {v:V} (h:VD K m H (.int i) v):v = .int i:=by rw [VD] at h;exact h
theorem VD.bls {i:Bool} {v:V} (h:VD K m H (.bl i) v):v = .bl i:=by rw [VD] at h;exact h
theorem VD.strs {i:Str} {v:V} (h:VD K m H (.str i) v):v = .str i:=by rw [VD] at h;exact h
theorem VD.nons {v:V} (h:VD K m H .non v):v = .non:=by rw [VD] at h;exact h
theorem VD.tups {ds:List D} {v:V} (h:VD K m H (.tup ds) v):∃ a vs,v = .ref a/\H a=some (.tup vs)/\VDs K m H ds vs:=by rw [VD] at h;exact h
theorem VD.refs {n:Nat} {v:V} (h:VD K m H (.ref n) v):∃ a,m[n]?=some a/\v = .ref a:=by rw [VD] at h;exact h
noncomputable def AK:XA:=fun _ S=>some ([],S)
noncomputable def tG (x:XE) (y:XA):XA:=fun ρ S=>bnd (x ρ S) fun a S1=>bnd (y ρ S1) fun as S2=>some (a::as,S2)
theorem Fi {σ:L2.St} {H:Hp} {Q:List V->Hp->Prop} (h:tAr K AK σ H Q):jP σ H Q:=by
 obtain ⟨m,ρ,S,d',S',E,R,e,q⟩:=h
 cases e
 exact q m H [] (Aft.refl R) .nil
theorem AL {x:XE} {y:XA} {σ:L2.St} {H:Hp} {Q:List V->Hp->Prop} (h:tAr K (tG x y) σ H Q):cB (tE K x) (tAr K y) σ H Q:=by
 obtain ⟨m,ρ,S,d',S',E,R,e,q⟩:=h
 obtain ⟨a,S1,e1,e⟩:=ab e
 obtain ⟨b,S2,e2,e⟩:=ab e
 cases e
 refine ⟨m,ρ,S,a,S1,E,R,e1,fun m1 H1 v A1 va=>⟨m1,ρ,S1,b,_,E.mono R A1.ext,A1.rel,e2,fun m2 H2 w A2 vb=>?_⟩⟩
 exact q m2 H2 _ (A1.trans A2) (.cons (va.mono A1.rel A2.ext) vb)
noncomputable def jT (ds:List D) (S:Sto):Option (D × Sto):=if ds.length<=1000 then some (.tup ds,S) else none
theorem kE {n:Nat} (h:n<=1000):n<=sizeLine:=by rw [sizeLine_eq];omega
theorem jZ {ds:List D} {vs:List V} {Q:VK} (R:Rel K m S H) (vd:VDs K m H ds vs) (q:∀ m' H' u,Aft K m H S m' H'->VD K m' H' (.tup ds) u->Q u H'):∀ p,H p=none->Q (.ref p) (upd H p (.tup vs)):=fun p hp=>
 q m _ _ ⟨Ext.beside R hp _,R.beside hp _⟩ (kD bf (vd.mono R (Ext.beside R hp _)))
theorem tH {ds:List D} {vs:List V} {Q:VK} (R:Rel K m S H) (vd:VDs K m H ds vs) (q:∀ m' H' u,Aft K m H (S++[.lst ds]) m' H'->VD K m' H' (.ref S.length) u->Q u H'):∀ p,H p=none->Q (.ref p) (upd H p (.lst vs)):=fun p hp=>by
 have x:=Ext.beside R hp (.lst vs)
 refine q (m++[p]) _ _ ⟨x.adopt hp,(R.beside hp _).adopt (R.no hp) bf (vd.mono R x)⟩ ?_
 rw [VD]
 exact ⟨p,by rw [List.getElem?_append_right (by rw [R.len];exact Nat.le_refl _),R.len,Nat.sub_self];rfl,rfl⟩
theorem j6 {ds:List D} {vs:List V} {Q:VK} (R:Rel K m S H) (vd:VDs K m H ds vs) (q:∀ m' H' a vs,Aft K m H S m' H'->H' a=some (.lst vs)->a ∉ m'->(∀ b,b ∈ m->b ≠ a)->H a=none->VDs K m' H' ds vs->Q (.ref a) H'):∀ p,H p=none->Q (.ref p) (upd H p (.lst vs)):=fun p hp=>
 q m _ _ _ ⟨Ext.beside R hp _,R.beside hp _⟩ bf (R.no hp) (fun b hb z=>R.no hp (z ▸ hb)) hp (vd.mono R (Ext.beside R hp _))
theorem Fj {x:XA} {σ:L2.St} {H:Hp} {Q:VK} (h:tE K (jS jT x) σ H Q):Jv (tAr K x) σ H Q:=by
 obtain ⟨m,ρ,S,d',S',E,R,e,q⟩:=h
 obtain ⟨a,S1,e1,e⟩:=ab e
 unfold jT at e
 split at e
 ·rename_i hl
  cases e
  exact ⟨m,ρ,S,a,_,E,R,e1,fun m1 H1 vs A1 va=>⟨kE (by rw [<-va.length];exact hl),jZ A1.rel va fun m' H' u A2 vu=>q m' H' u (A1.trans A2) vu⟩⟩
 ·cases e
noncomputable def mM (x:XA):XA:=fun ρ S=>bnd (x ρ S) fun ds S1=>if ds.length<=1000 then some (ds,S1) else none
theorem AM {x:XA} {σ:L2.St} {H:Hp} {Q:VK} (h:eI K (mM x) σ H Q):Jw (tAr K x) σ H Q:=by
 obtain ⟨m,ρ,S,ds,S',E,R,e,q⟩:=h
 obtain ⟨a,S1,e1,e⟩:=ab e
 split at e
 ·rename_i hl
  cases e
  refine ⟨m,ρ,S,_,_,E,R,e1,fun m1 H1 vs A1 va=>⟨kE (by rw [<-va.length];exact hl),j6 A1.rel va fun m' H' u us A2 sq n1 n2 n3 vu=>?_⟩⟩
  have hn:H u=none:=by
   cases e:H u with
   | none=>rfl
   | some o=>
    by_cases hm:u ∈ m
    ·exact absurd rfl (n2 u (A1.ext.pre.subset hm))
    ·have:=A1.ext.keep u o e hm
     rw [this] at n3;cases n3
  exact q m' H' u us (A1.trans A2) sq n1 (fun b hb=>n2 b (A1.ext.pre.subset hb)) hn vu
 ·cases e
theorem dS {d:D} {v:V} {tu:Bool} {ds:List D} (R:Rel K m S H) (vd:VD K m H d v) (e:ak d S=some (tu,ds)):∃ a vs,v = .ref a/\SqB K tu H a vs/\VDs K m H ds vs:=by
 unfold ak at e
 cases d with
 | tup es=>
  cases e
  obtain ⟨a,vs,e,q,r⟩:=vd.tups
  exact ⟨a,vs,e,q,r⟩
 | ref n=>
  obtain ⟨a,ha,ev⟩:=vd.refs
  cases hs:aj S n with
  | none=>simp [hs] at e
  | some es=>
   simp [hs] at e
   obtain ⟨rfl,rfl⟩:=e
   obtain ⟨b,vs,hb,q,r⟩:=R.seq hs
   rw [ha] at hb
   cases hb
   exact ⟨a,vs,ev,q,r⟩
 | _=>cases e
theorem Fk {f:Bool->List D->Sto->Option (D × Sto)} {x:XE} {σ:L2.St} {H:Hp} {Q:VK} (h:tE K (pQ f x) σ H Q):tUn (rSq K f) (tE K x) σ H Q:=by
 obtain ⟨m,ρ,S,d,S',E,R,e,q⟩:=h
 obtain ⟨a,S1,e1,e⟩:=ab e
 refine ⟨m,ρ,S,a,S1,E,R,e1,fun m1 H1 v A1 va=>?_⟩
 unfold ad at e
 split at e
 ·rename_i r hi
  obtain ⟨b,vs,ev,sq,vds⟩:=dS (tu:=r.1) (ds:=r.2) A1.rel va hi
  exact ⟨m1,S1,r.1,r.2,b,vs,d,S',A1.rel,ev,sq,vds,e,fun m3 H3 u A3 vd=>q m3 H3 u (A1.trans A3) vd⟩
 ·cases e
noncomputable def dF (x:XA):XE:=fun ρ S=>bnd (x ρ S) fun ds S1=>some (.ref S1.length,S1++[.lst ds])
theorem pR {x:XA} {σ:L2.St} {H:Hp} {Q:VK} (h:tE K (dF x) σ H Q):eI K x σ H Q:=by
 obtain ⟨m,ρ,S,d,S',E,R,e,q⟩:=h
 obtain ⟨ds,S1,e1,e⟩:=ab e
 cases e
 refine ⟨m,ρ,S,ds,S1,E,R,e1,fun m1 H1 a vs A1 sq n1 n2 n3 vd=>?_⟩
 refine q (m1++[a]) H1 _ ⟨⟨A1.ext.pre.trans (List.prefix_append _ _),A1.ext.keep,fun b hb nb=>?_⟩,A1.rel.adopt n1 sq vd⟩ ?_
 ·rcases List.mem_append.mp hb with z | z
  ·exact A1.ext.new b z nb
  ·simp at z;subst z;exact n3
 ·rw [VD]
  exact ⟨a,by rw [List.getElem?_append_right (by rw [A1.rel.len];exact Nat.le_refl _),A1.rel.len,Nat.sub_self];rfl,rfl⟩
end
end Ev
namespace Ev
open PySem PySem.Spec PyProof.Rows L2
noncomputable def eqL (f:D->D->Option Bool):List D->List D->Option Bool
 | [],[]=>some true
 | [],_::_=>some false
 | _::_,[]=>some false
 | x::xs,y::ys=>match f x y,eqL f xs ys with
  | some a,some b=>some (a && b)
  | _,_=>none
noncomputable def eqD:Nat->Sto->D->D->Option Bool
 | 0,_,_,_=>none
 | n+1,S,x,y=>match x,y with
  | .non,.non=>some true
  | .bl a,.bl b=>some (a == b)
  | .int a,.int b=>some (a == b)
  | .str a,.str b=>some (a == b)
  | .bl a,.int b=>some ((if a then 1 else 0) == b)
  | .int a,.bl b=>some (a == (if b then 1 else 0))
  | .tup xs,.tup ys=>eqL (eqD n S) xs ys
  | .ref a,.ref b=>match aj S a,aj S b with
   | some xs,some ys=>if a=b then some true else if xs.length=ys.length then eqL (eqD n S) xs ys else some false
   | _,_=>none
  | .tup _,.ref b=>match aj S b with
   | some _=>some false
   | none=>none
  | .ref a,.tup _=>match aj S a with
   | some _=>some false
   | none=>none
  | .ref a,_=>match aj S a with
   | some _=>some false
   | none=>none
  | _,.ref a=>match aj S a with
   | some _=>some false
   | none=>none
  | _,_=>some false
section
variable {X:Cx} {K:PySem.W.Frag} {m:List Addr} {H:Hp} {S:Sto}
theorem pS {f:D->D->Option Bool}:∀ {xs ys:List D} {b:Bool},eqL f xs ys=some b->∃ g:Nat->Bool,(∀ j x y,xs[j]?=some x->ys[j]?=some y->f x y=some (g j))/\b=((List.range (min xs.length ys.length)).all g && xs.length == ys.length)
 | [],[],b,h=>by simp [eqL] at h;exact ⟨fun _=>true,fun j x y e=>by simp at e,by simp [<-h]⟩
 | [],_::_,b,h=>by simp [eqL] at h;exact ⟨fun _=>true,fun j x y e=>by simp at e,by simp [<-h]⟩
 | _::_,[],b,h=>by simp [eqL] at h;exact ⟨fun _=>true,fun j x y _ e=>by simp at e,by simp [<-h]⟩
 | x::xs,y::ys,b,h=>by
  simp only [eqL] at h
  cases h1:f x y with
  | none=>simp [h1] at h
  | some a=>
   cases h2:eqL f xs ys with
   | none=>simp [h1,h2] at h
   | some c=>
    simp [h1,h2] at h
    obtain ⟨g,hg,hc⟩:=pS h2
    refine ⟨fun j=>match j with | 0=>a | j+1=>g j,fun j x' y' e1 e2=>?_,?_⟩
    ·cases j with
     | zero=>simp at e1 e2;subst e1 e2;exact h1
     | succ j=>simp at e1 e2;exact hg j x' y' e1 e2
    ·rw [<-h,hc]
     simp only [List.length_cons,Nat.succ_min_succ,List.range_succ_eq_map,List.all_cons,List.all_map]
     rw [Bool.and_assoc]
     congr 1
     rw [show (xs.length+1 == ys.length+1)=(xs.length == ys.length) by simp]
     rfl
theorem AN {pins:List (Addr × Obj)} {σ:L2.St} {s:Shared} {a:Addr} {xs ys:List V} (I:Inv X pins σ H s) (h1:H a=some (.tup xs)) (h2:H a=some (.tup ys)):xs=ys:=by
 rw [h1] at h2;cases h2;rfl
theorem vg {m:List Addr} (nd:m.Nodup) {i j:Nat} {a:Addr} (h1:m[i]?=some a) (h2:m[j]?=some a):i=j:=by
 obtain ⟨p1,q1⟩:=List.getElem?_eq_some_iff.mp h1
 obtain ⟨p2,q2⟩:=List.getElem?_eq_some_iff.mp h2
 exact (List.getElem_inj nd).mp (q1.trans q2.symm)
theorem pT {pins:List (Addr × Obj)} {σ:L2.St} {s:Shared} (I:Inv X pins σ H s) (R:Rel X.K m S H):∀ (n:Nat) {x y:D} {v:V} {b:Bool},VD X.K m H x v->VD X.K m H y v->eqD n S x y=some b->b=true
 | 0,_,_,_,_,_,_,h=>by simp [eqD] at h
 | n+1,x,y,v,b,h1,h2,h=>by
  have lists:∀ {xs ys:List D} {vs:List V} {b:Bool},VDs X.K m H xs vs->VDs X.K m H ys vs->eqL (eqD n S) xs ys=some b->b=true:=by
   intro xs
   induction xs with
   | nil=>
    intro ys vs b p q e
    have l1:=p.length
    have l2:=q.length
    cases ys with
    | nil=>simp [eqL] at e;simp_all
    | cons _ _=>simp at l1 l2;omega
   | cons x xs ih=>
    intro ys vs b p q e
    have l1:=p.length
    have l2:=q.length
    cases ys with
    | nil=>simp at l1 l2;omega
    | cons y ys=>
     rw [VDs] at p q
     obtain ⟨a,r,e1,p1,p2⟩:=p
     obtain ⟨a',r',e2,q1,q2⟩:=q
     rw [e1] at e2
     cases e2
     simp only [eqL] at e
     cases f1:eqD n S x y with
     | none=>simp [f1] at e
     | some c=>
      cases f2:eqL (eqD n S) xs ys with
      | none=>simp [f1,f2] at e
      | some d=>
       simp [f1,f2] at e
       rw [<-e,pT I R n p1 q1 f1,ih p2 q2 f2];rfl
  cases x with
  | non=>cases h1.nons;cases y <;> simp [VD] at h2 <;> simp [eqD] at h <;> simp [h]
  | bl a=>cases h1.bls;cases y <;> simp [VD] at h2 <;> simp [eqD] at h <;> simp_all
  | int a=>cases h1.ints;cases y <;> simp [VD] at h2 <;> simp [eqD] at h <;> simp_all
  | str a=>cases h1.strs;cases y <;> simp [VD] at h2 <;> simp [eqD] at h <;> simp_all
  | tup xs=>
   obtain ⟨a,vs,e,sq,p⟩:=h1.tups
   subst e
   cases y with
   | tup ys=>
    obtain ⟨a',vs',e',sq',q⟩:=h2.tups
    cases e'
    have:=AN I sq sq'
    subst this
    simp only [eqD] at h
    exact lists p q h
   | ref k=>
    obtain ⟨a',ha,e'⟩:=h2.refs
    cases e'
    have z:a ∈ m:=List.mem_of_getElem? ha
    exact absurd z (R.notTup sq)
   | non=>cases h2.nons
   | bl _=>cases h2.bls
   | int _=>cases h2.ints
   | str _=>cases h2.strs
  | ref k=>
   obtain ⟨a,ha,e⟩:=h1.refs
   subst e
   cases y with
   | ref k'=>
    obtain ⟨a',ha',e'⟩:=h2.refs
    cases e'
    have:=vg R.nd ha ha'
    subst this
    simp only [eqD] at h
    cases hs:aj S k with
    | none=>rw [hs] at h;cases h
    | some es=>rw [hs] at h;simp at h;exact h.symm ▸ rfl
   | tup ys=>
    obtain ⟨a',vs',e',sq,q⟩:=h2.tups
    cases e'
    have z:a ∈ m:=List.mem_of_getElem? ha
    exact absurd z (R.notTup sq)
   | non=>cases h2.nons
   | bl _=>cases h2.bls
   | int _=>cases h2.ints
   | str _=>cases h2.strs
theorem n9 {vs:List V} {its:List Value} {xs:List D} (p:VDs K m H xs vs) (r:aM vs its) {j:Nat} (hj:j < its.toArray.size):∃ x v,xs[j]?=some x/\VD K m H x v/\aK v its.toArray[j]:=by
 have hj':j < its.length:=by simpa using hj
 have l1:=p.length
 have l2:=r.length
 obtain ⟨v,hv,vd⟩:=p.get (i:=j) (d:=xs[j]'(by omega)) (gEG _)
 obtain ⟨u,hu,ru⟩:=r.get hv
 refine ⟨_,v,gEG (by omega),vd,?_⟩
 have e:its[j]?=some its[j]:=gEG hj'
 rw [e] at hu
 cases hu
 simpa using ru
noncomputable abbrev Fm (X:Cx) (m:List Addr) (H:Hp) (S:Sto) (s:Shared) (n:Nat):Prop:=∀ (A:Around) (x y:D) (v w:V) (u u':Value) (b:Bool),VD X.K m H x v->VD X.K m H y w->aK v u->aK w u'->eqD n S x y=some b->A.units+n < cLine->SeqAt.EqAt A s u u' b
theorem pU {pins:List (Addr × Obj)} {σ:L2.St} {s:Shared} {n:Nat} (ih:Fm X m H S s n) {A:Around} {xs ys:List D} {vs ws:List V} {i1 i2:List Value} {b:Bool} (p:VDs X.K m H xs vs) (q:VDs X.K m H ys ws) (r1:aM vs i1) (r2:aM ws i2)
  (h:eqL (eqD n S) xs ys=some b) (hu:A.units+(n+1) < cLine):∃ g:Nat->Bool,(∀ j (h1:j < i1.toArray.size) (h2:j < i2.toArray.size),SeqAt.EqAt A.in1 s i1.toArray[j] i2.toArray[j] (g j))/\b=((List.range (min i1.toArray.size i2.toArray.size)).all g && i1.toArray.size == i2.toArray.size):=by
 obtain ⟨g,hg,hb⟩:=pS h
 have l1:i1.toArray.size=xs.length:=by rw [List.size_toArray,<-r1.length,<-p.length]
 have l2:i2.toArray.size=ys.length:=by rw [List.size_toArray,<-r2.length,<-q.length]
 refine ⟨g,fun j h1 h2=>?_,by rw [hb,l1,l2]⟩
 obtain ⟨x,v,e1,v1,ru1⟩:=n9 p r1 h1
 obtain ⟨y,w,e2,v2,ru2⟩:=n9 q r2 h2
 exact ih _ _ _ _ _ _ _ _ v1 v2 ru1 ru2 (hg j x y e1 e2) (by show A.units+1+n < cLine;omega)
theorem xw {n:Nat}:(List.range n).all (fun _=>true)=true:=by simp
theorem xy {pins:List (Addr × Obj)} {σ:L2.St} {s:Shared} (I:Inv X pins σ H s) (R:Rel X.K m S H) {n:Nat} (ih:Fm X m H S s n) {A:Around} {x y:D} {a a':Addr} {b:Bool} (hx:VD X.K m H x (.ref a)) (hy:VD X.K m H y (.ref a')) (h:eqD (n+1) S x y=some b) (hu:A.units+(n+1) < cLine) :
  SeqAt.RcAt A s (.ref a) (.ref a') b/\PySem.SeqAt.RcNeAt A s (.ref a) (.ref a') (!b):=by
 have hu0:A.units < cLine:=by omega
 cases x with
 | non=>cases hx.nons
 | bl _=>cases hx.bls
 | int _=>cases hx.ints
 | str _=>cases hx.strs
 | tup xs=>
  obtain ⟨_,vs,e,sq,p⟩:=hx.tups
  cases e
  obtain ⟨i1,r1,t1,_⟩:=I.tuple (.of sq)
  cases y with
  | non=>cases hy.nons
  | bl _=>cases hy.bls
  | int _=>cases hy.ints
  | str _=>cases hy.strs
  | tup ys=>
   obtain ⟨_,ws,e,sq',q⟩:=hy.tups
   cases e
   obtain ⟨i2,r2,t2,_⟩:=I.tuple (.of sq')
   simp only [eqD] at h
   obtain ⟨g,hg,hb⟩:=pU (pins:=pins) (σ:=σ) ih p q r1 r2 h hu
   rw [hb]
   exact ⟨SeqAt.RcAt.tuples t1 t2 hu0 hg,PySem.SeqAt.RcNeAt.tuples t1 t2 hu0 hg⟩
  | ref k=>
   simp only [eqD] at h
   cases hs:aj S k with
   | none=>rw [hs] at h;cases h
   | some es=>
    rw [hs] at h
    cases h
    obtain ⟨b',ws,hb,sq',q⟩:=R.seq hs
    obtain ⟨c,hc,ec⟩:=hy.refs
    cases ec
    rw [hb] at hc
    cases hc
    obtain ⟨i2,r2,t2,_⟩:=I.list sq'
    exact ⟨SeqAt.RcAt.tuple_list t1 t2.isList hu0,PySem.SeqAt.RcNeAt.tuple_list t1 t2.isList hu0⟩
 | ref k=>
  obtain ⟨c,hc,ec⟩:=hx.refs
  cases ec
  cases y with
  | non=>cases hy.nons
  | bl _=>cases hy.bls
  | int _=>cases hy.ints
  | str _=>cases hy.strs
  | tup ys=>
   obtain ⟨_,ws,e,sq',q⟩:=hy.tups
   cases e
   obtain ⟨i2,r2,t2,_⟩:=I.tuple (.of sq')
   simp only [eqD] at h
   cases hs:aj S k with
   | none=>rw [hs] at h;cases h
   | some es=>
    rw [hs] at h
    cases h
    obtain ⟨b',vs,hb,sq,p⟩:=R.seq hs
    rw [hb] at hc
    cases hc
    obtain ⟨i1,r1,t1,_⟩:=I.list sq
    exact ⟨SeqAt.RcAt.list_tuple t1.isList t2 hu0,PySem.SeqAt.RcNeAt.list_tuple t1.isList t2 hu0⟩
  | ref k'=>
   obtain ⟨c',hc',ec'⟩:=hy.refs
   cases ec'
   simp only [eqD] at h
   cases hs:aj S k with
   | none=>rw [hs] at h;cases h
   | some es=>
    cases hs':aj S k' with
    | none=>rw [hs,hs'] at h;cases h
    | some es'=>
     rw [hs,hs'] at h
     dsimp only at h
     obtain ⟨b1,vs,hb,sq,p⟩:=R.seq hs
     rw [hb] at hc
     cases hc
     obtain ⟨b2,ws,hb',sq',q⟩:=R.seq hs'
     rw [hb'] at hc'
     cases hc'
     obtain ⟨i1,r1,t1,_⟩:=I.list sq
     obtain ⟨i2,r2,t2,_⟩:=I.list sq'
     split at h
     ·rename_i hk
      subst hk
      rw [hb] at hb'
      cases hb'
      cases h
      have z:=SeqAt.RcAt.lists (e:=fun _=>true) t1.isList t1.isList rfl hu0 fun j h1 h2=>SeqAt.EqAt.same _
      have z':=PySem.SeqAt.RcNeAt.lists (e:=fun _=>true) t1.isList t1.isList rfl hu0 fun j h1 h2=>SeqAt.EqAt.same _
      rw [xw] at z z'
      exact ⟨z,z'⟩
     ·have l1:i1.toArray.size=es.length:=by rw [List.size_toArray,<-r1.length,<-p.length]
      have l2:i2.toArray.size=es'.length:=by rw [List.size_toArray,<-r2.length,<-q.length]
      split at h
      ·rename_i hl
       obtain ⟨g,hg,hb3⟩:=pU (pins:=pins) (σ:=σ) ih p q r1 r2 h hu
       have hsz:i1.toArray.size=i2.toArray.size:=by rw [l1,l2,hl]
       rw [hb3,<-hsz,Nat.min_self,beq_self_eq_true,Bool.and_true]
       exact ⟨SeqAt.RcAt.lists t1.isList t2.isList hsz hu0 hg,PySem.SeqAt.RcNeAt.lists t1.isList t2.isList hsz hu0 hg⟩
      ·rename_i hl
       cases h
       have hsz:(i1.toArray.size != i2.toArray.size)=true:=by rw [l1,l2];simpa using hl
       exact ⟨SeqAt.RcAt.lists_lengths t1.isList t2.isList hsz hu0,PySem.SeqAt.RcNeAt.lists_lengths t1.isList t2.isList hsz hu0⟩
theorem be {pins:List (Addr × Obj)} {σ:L2.St} {s:Shared} (I:Inv X pins σ H s) (R:Rel X.K m S H) {k:Nat} {v:V} {es:List D} (h:VD X.K m H (.ref k) v) (hs:aj S k=some es):∃ a i,v = .ref a/\s.heap.IsList a i:=by
 obtain ⟨c,hc,ec⟩:=h.refs
 obtain ⟨b1,vs,hb,sq,p⟩:=R.seq hs
 rw [hb] at hc
 cases hc
 obtain ⟨i1,r1,t1,_⟩:=I.list sq
 exact ⟨_,_,ec,t1.isList⟩
theorem bu {pins:List (Addr × Obj)} {σ:L2.St} {s:Shared} (I:Inv X pins σ H s) {v:V} {es:List D} (h:VD X.K m H (.tup es) v):∃ a i,v = .ref a/\s.heap.IsTuple a i:=by
 obtain ⟨a,vs,e,sq,p⟩:=h.tups
 obtain ⟨i1,r1,t1,_⟩:=I.tuple (.of sq)
 exact ⟨_,_,e,t1⟩
theorem oe {pins:List (Addr × Obj)} {σ:L2.St} {s:Shared} (I:Inv X pins σ H s) (R:Rel X.K m S H):∀ n,Fm X m H S s n
 | 0=>fun A x y v w u u' b h1 h2 r1 r2 h _=>by simp [eqD] at h
 | n+1=>fun A x y v w u u' b h1 h2 r1 r2 h hu=>by
  have hu0:A.units < cLine:=by omega
  have seq:∀ {a a':Addr},v = .ref a->w = .ref a'->SeqAt.EqAt A s u u' b:=by
   intro a a' e e'
   subst e e'
   cases r1;cases r2
   by_cases z:a=a'
   ·subst z
    have:=pT I R (n+1) h1 h2 h
    subst this
    exact SeqAt.EqAt.same _
   ·exact SeqAt.EqAt.of_refs z (xy I R (oe I R n) h1 h2 h hu).1
  cases x with
  | non=>
   cases h1.nons;cases r1
   cases y with
   | non=>cases h2.nons;cases r2;simp [eqD] at h;subst h;exact SeqAt.EqAt.same _
   | bl j=>cases h2.bls;cases r2;simp [eqD] at h;subst h;exact SeqAt.EqAt.none_bool _
   | int j=>cases h2.ints;obtain ⟨t,rfl⟩:=r2;simp [eqD] at h;subst h;exact SeqAt.EqAt.none_int _ _
   | str j=>cases h2.strs;obtain ⟨t,rfl⟩:=r2;simp [eqD] at h;subst h;exact SeqAt.EqAt.none_str _ _
   | tup ys=>obtain ⟨a,i,e,l⟩:=bu I h2;subst e;cases r2;simp [eqD] at h;subst h;exact SeqAt.EqAt.none_tuple l hu0
   | ref k=>
    simp only [eqD] at h
    cases hs:aj S k with
    | none=>rw [hs] at h;cases h
    | some es=>rw [hs] at h;cases h;obtain ⟨a,i,e,l⟩:=be I R h2 hs;subst e;cases r2;exact SeqAt.EqAt.none_list l hu0
  | bl i=>
   cases h1.bls;cases r1
   cases y with
   | non=>cases h2.nons;cases r2;simp [eqD] at h;subst h;exact SeqAt.EqAt.bool_none _
   | bl j=>cases h2.bls;cases r2;simp only [eqD] at h;cases h;exact SeqAt.EqAt.bool_bool _ _
   | int j=>cases h2.ints;obtain ⟨t,rfl⟩:=r2;simp only [eqD] at h;cases h;exact SeqAt.EqAt.bool_int _ _ _
   | str j=>cases h2.strs;obtain ⟨t,rfl⟩:=r2;simp [eqD] at h;subst h;exact SeqAt.EqAt.bool_str _ _ _
   | tup ys=>obtain ⟨a,i,e,l⟩:=bu I h2;subst e;cases r2;simp [eqD] at h;subst h;exact SeqAt.EqAt.bool_tuple _ l hu0
   | ref k=>
    simp only [eqD] at h
    cases hs:aj S k with
    | none=>rw [hs] at h;cases h
    | some es=>rw [hs] at h;cases h;obtain ⟨a,i,e,l⟩:=be I R h2 hs;subst e;cases r2;exact SeqAt.EqAt.bool_list _ l hu0
  | int i=>
   cases h1.ints;obtain ⟨t1,rfl⟩:=r1
   cases y with
   | non=>cases h2.nons;cases r2;simp [eqD] at h;subst h;exact SeqAt.EqAt.int_none _ _
   | bl j=>cases h2.bls;cases r2;simp only [eqD] at h;cases h;exact SeqAt.EqAt.int_bool _ _ _
   | int j=>cases h2.ints;obtain ⟨t,rfl⟩:=r2;simp only [eqD] at h;cases h;exact SeqAt.EqAt.int_int _ _ _ _
   | str j=>cases h2.strs;obtain ⟨t,rfl⟩:=r2;simp [eqD] at h;subst h;exact SeqAt.EqAt.int_str _ _ _ _
   | tup ys=>obtain ⟨a,i,e,l⟩:=bu I h2;subst e;cases r2;simp [eqD] at h;subst h;exact SeqAt.EqAt.int_tuple _ _ l hu0
   | ref k=>
    simp only [eqD] at h
    cases hs:aj S k with
    | none=>rw [hs] at h;cases h
    | some es=>rw [hs] at h;cases h;obtain ⟨a,i,e,l⟩:=be I R h2 hs;subst e;cases r2;exact SeqAt.EqAt.int_list _ _ l hu0
  | str i=>
   cases h1.strs;obtain ⟨t1,rfl⟩:=r1
   cases y with
   | non=>cases h2.nons;cases r2;simp [eqD] at h;subst h;exact SeqAt.EqAt.str_none _ _
   | bl j=>cases h2.bls;cases r2;simp [eqD] at h;subst h;exact SeqAt.EqAt.str_bool _ _ _
   | int j=>cases h2.ints;obtain ⟨t,rfl⟩:=r2;simp [eqD] at h;subst h;exact SeqAt.EqAt.str_int _ _ _ _
   | str j=>cases h2.strs;obtain ⟨t,rfl⟩:=r2;simp only [eqD] at h;cases h;exact SeqAt.EqAt.str_str _ _ _ _
   | tup ys=>obtain ⟨a,i,e,l⟩:=bu I h2;subst e;cases r2;simp [eqD] at h;subst h;exact SeqAt.EqAt.str_tuple _ _ l hu0
   | ref k=>
    simp only [eqD] at h
    cases hs:aj S k with
    | none=>rw [hs] at h;cases h
    | some es=>rw [hs] at h;cases h;obtain ⟨a,i,e,l⟩:=be I R h2 hs;subst e;cases r2;exact SeqAt.EqAt.str_list _ _ l hu0
  | tup xs=>
   obtain ⟨a,i,e,l⟩:=bu I h1
   subst e;cases r1
   cases y with
   | non=>cases h2.nons;cases r2;simp [eqD] at h;subst h;exact SeqAt.EqAt.tuple_none l hu0
   | bl j=>cases h2.bls;cases r2;simp [eqD] at h;subst h;exact SeqAt.EqAt.tuple_bool _ l hu0
   | int j=>cases h2.ints;obtain ⟨t,rfl⟩:=r2;simp [eqD] at h;subst h;exact SeqAt.EqAt.tuple_int _ _ l hu0
   | str j=>cases h2.strs;obtain ⟨t,rfl⟩:=r2;simp [eqD] at h;subst h;exact SeqAt.EqAt.tuple_str _ _ l hu0
   | tup ys=>obtain ⟨a',i',e',l'⟩:=bu I h2;exact seq rfl e'
   | ref k=>obtain ⟨c,hc,ec⟩:=h2.refs;exact seq rfl ec
  | ref k=>
   obtain ⟨c,hc,ec⟩:=h1.refs
   cases y with
   | tup ys=>obtain ⟨a',i',e',l'⟩:=bu I h2;exact seq ec e'
   | ref k=>obtain ⟨c,hc,ec'⟩:=h2.refs;exact seq ec ec'
   | non=>
    simp only [eqD] at h
    cases hs:aj S k with
    | none=>rw [hs] at h;cases h
    | some es=>rw [hs] at h;cases h;obtain ⟨a,i,e,l⟩:=be I R h1 hs;subst e;cases r1;cases h2.nons;cases r2;exact SeqAt.EqAt.list_none l hu0
   | bl j=>
    simp only [eqD] at h
    cases hs:aj S k with
    | none=>rw [hs] at h;cases h
    | some es=>rw [hs] at h;cases h;obtain ⟨a,i,e,l⟩:=be I R h1 hs;subst e;cases r1;cases h2.bls;cases r2;exact SeqAt.EqAt.list_bool _ l hu0
   | int j=>
    simp only [eqD] at h
    cases hs:aj S k with
    | none=>rw [hs] at h;cases h
    | some es=>rw [hs] at h;cases h;obtain ⟨a,i,e,l⟩:=be I R h1 hs;subst e;cases r1;cases h2.ints;obtain ⟨t,rfl⟩:=r2;exact SeqAt.EqAt.list_int _ _ l hu0
   | str j=>
    simp only [eqD] at h
    cases hs:aj S k with
    | none=>rw [hs] at h;cases h
    | some es=>rw [hs] at h;cases h;obtain ⟨a,i,e,l⟩:=be I R h1 hs;subst e;cases r1;cases h2.strs;obtain ⟨t,rfl⟩:=r2;exact SeqAt.EqAt.list_str _ _ l hu0
theorem JI {pins:List (Addr × Obj)} {σ:L2.St} {s:Shared} (I:Inv X pins σ H s) (R:Rel X.K m S H) (n:Nat) {A:Around} {x y:D} {v w:V} {u u':Value} {b:Bool} (h1:VD X.K m H x v) (h2:VD X.K m H y w) (r1:aK v u) (r2:aK w u') (h:eqD (n+1) S x y=some b) (hu:A.units+(n+1) < cLine) :
  SeqAt.RcAt A s u u' b/\PySem.SeqAt.RcNeAt A s u u' (!b):=by
 have hu0:A.units < cLine:=by omega
 have seq:∀ {a a':Addr},v = .ref a->w = .ref a'->SeqAt.RcAt A s u u' b/\PySem.SeqAt.RcNeAt A s u u' (!b):=by
  intro a a' e e'
  subst e e'
  cases r1;cases r2
  exact xy I R (oe I R n) h1 h2 h hu
 cases x with
 | non=>
  cases h1.nons;cases r1
  cases y with
  | non=>cases h2.nons;cases r2;simp [eqD] at h;subst h;exact ⟨SeqAt.RcAt.none_none,PySem.SeqAt.RcNeAt.none_none⟩
  | bl j=>cases h2.bls;cases r2;simp [eqD] at h;subst h;exact ⟨SeqAt.RcAt.none_bool _,PySem.SeqAt.RcNeAt.none_bool _⟩
  | int j=>cases h2.ints;obtain ⟨t2,rfl⟩:=r2;simp [eqD] at h;subst h;exact ⟨SeqAt.RcAt.none_int _ _,PySem.SeqAt.RcNeAt.none_int _ _⟩
  | str j=>cases h2.strs;obtain ⟨t2,rfl⟩:=r2;simp [eqD] at h;subst h;exact ⟨SeqAt.RcAt.none_str _ _,PySem.SeqAt.RcNeAt.none_str _ _⟩
  | tup ys=>obtain ⟨a,i,e,l⟩:=bu I h2;subst e;cases r2;simp [eqD] at h;subst h;exact ⟨SeqAt.RcAt.none_tuple l hu0,PySem.SeqAt.RcNeAt.none_tuple l hu0⟩
  | ref k=>
   simp only [eqD] at h
   cases hs:aj S k with
   | none=>rw [hs] at h;cases h
   | some es=>rw [hs] at h;cases h;obtain ⟨a,i,e,l⟩:=be I R h2 hs;subst e;cases r2;exact ⟨SeqAt.RcAt.none_list l hu0,PySem.SeqAt.RcNeAt.none_list l hu0⟩
 | bl i=>
  cases h1.bls;cases r1
  cases y with
  | non=>cases h2.nons;cases r2;simp [eqD] at h;subst h;exact ⟨SeqAt.RcAt.bool_none _,PySem.SeqAt.RcNeAt.bool_none _⟩
  | bl j=>cases h2.bls;cases r2;simp only [eqD] at h;cases h;exact ⟨SeqAt.RcAt.bool_bool _ _,PySem.SeqAt.RcNeAt.bool_bool _ _⟩
  | int j=>cases h2.ints;obtain ⟨t2,rfl⟩:=r2;simp only [eqD] at h;cases h;exact ⟨SeqAt.RcAt.bool_int _ _ _,PySem.SeqAt.RcNeAt.bool_int _ _ _⟩
  | str j=>cases h2.strs;obtain ⟨t2,rfl⟩:=r2;simp [eqD] at h;subst h;exact ⟨SeqAt.RcAt.bool_str _ _ _,PySem.SeqAt.RcNeAt.bool_str _ _ _⟩
  | tup ys=>obtain ⟨a,i,e,l⟩:=bu I h2;subst e;cases r2;simp [eqD] at h;subst h;exact ⟨SeqAt.RcAt.bool_tuple _ l hu0,PySem.SeqAt.RcNeAt.bool_tuple _ l hu0⟩
  | ref k=>
   simp only [eqD] at h
   cases hs:aj S k with
   | none=>rw [hs] at h;cases h
   | some es=>rw [hs] at h;cases h;obtain ⟨a,i,e,l⟩:=be I R h2 hs;subst e;cases r2;exact ⟨SeqAt.RcAt.bool_list _ l hu0,PySem.SeqAt.RcNeAt.bool_list _ l hu0⟩
 | int i=>
  cases h1.ints;obtain ⟨t1,rfl⟩:=r1
  cases y with
  | non=>cases h2.nons;cases r2;simp [eqD] at h;subst h;exact ⟨SeqAt.RcAt.int_none _ _,PySem.SeqAt.RcNeAt.int_none _ _⟩
  | bl j=>cases h2.bls;cases r2;simp only [eqD] at h;cases h;exact ⟨SeqAt.RcAt.int_bool _ _ _,PySem.SeqAt.RcNeAt.int_bool _ _ _⟩
  | int j=>cases h2.ints;obtain ⟨t2,rfl⟩:=r2;simp only [eqD] at h;cases h;exact ⟨SeqAt.RcAt.int_int _ _ _ _,PySem.SeqAt.RcNeAt.int_int _ _ _ _⟩
  | str j=>cases h2.strs;obtain ⟨t2,rfl⟩:=r2;simp [eqD] at h;subst h;exact ⟨SeqAt.RcAt.int_str _ _ _ _,PySem.SeqAt.RcNeAt.int_str _ _ _ _⟩
  | tup ys=>obtain ⟨a,i,e,l⟩:=bu I h2;subst e;cases r2;simp [eqD] at h;subst h;exact ⟨SeqAt.RcAt.int_tuple _ _ l hu0,PySem.SeqAt.RcNeAt.int_tuple _ _ l hu0⟩
  | ref k=>
   simp only [eqD] at h
   cases hs:aj S k with
   | none=>rw [hs] at h;cases h
   | some es=>rw [hs] at h;cases h;obtain ⟨a,i,e,l⟩:=be I R h2 hs;subst e;cases r2;exact ⟨SeqAt.RcAt.int_list _ _ l hu0,PySem.SeqAt.RcNeAt.int_list _ _ l hu0⟩
 | str i=>
  cases h1.strs;obtain ⟨t1,rfl⟩:=r1
  cases y with
  | non=>cases h2.nons;cases r2;simp [eqD] at h;subst h;exact ⟨SeqAt.RcAt.str_none _ _,PySem.SeqAt.RcNeAt.str_none _ _⟩
  | bl j=>cases h2.bls;cases r2;simp [eqD] at h;subst h;exact ⟨SeqAt.RcAt.str_bool _ _ _,PySem.SeqAt.RcNeAt.str_bool _ _ _⟩
  | int j=>cases h2.ints;obtain ⟨t2,rfl⟩:=r2;simp [eqD] at h;subst h;exact ⟨SeqAt.RcAt.str_int _ _ _ _,PySem.SeqAt.RcNeAt.str_int _ _ _ _⟩
  | str j=>cases h2.strs;obtain ⟨t2,rfl⟩:=r2;simp only [eqD] at h;cases h;exact ⟨SeqAt.RcAt.str_str _ _ _ _,PySem.SeqAt.RcNeAt.str_str _ _ _ _⟩
  | tup ys=>obtain ⟨a,i,e,l⟩:=bu I h2;subst e;cases r2;simp [eqD] at h;subst h;exact ⟨SeqAt.RcAt.str_tuple _ _ l hu0,PySem.SeqAt.RcNeAt.str_tuple _ _ l hu0⟩
  | ref k=>
   simp only [eqD] at h
   cases hs:aj S k with
   | none=>rw [hs] at h;cases h
   | some es=>rw [hs] at h;cases h;obtain ⟨a,i,e,l⟩:=be I R h2 hs;subst e;cases r2;exact ⟨SeqAt.RcAt.str_list _ _ l hu0,PySem.SeqAt.RcNeAt.str_list _ _ l hu0⟩
 | tup xs=>
  obtain ⟨a,i,e,l⟩:=bu I h1
  cases y with
  | non=>subst e;cases r1;cases h2.nons;cases r2;simp [eqD] at h;subst h;exact ⟨SeqAt.RcAt.tuple_none l hu0,PySem.SeqAt.RcNeAt.tuple_none l hu0⟩
  | bl j=>subst e;cases r1;cases h2.bls;cases r2;simp [eqD] at h;subst h;exact ⟨SeqAt.RcAt.tuple_bool _ l hu0,PySem.SeqAt.RcNeAt.tuple_bool _ l hu0⟩
  | int j=>subst e;cases r1;cases h2.ints;obtain ⟨t2,rfl⟩:=r2;simp [eqD] at h;subst h;exact ⟨SeqAt.RcAt.tuple_int _ _ l hu0,PySem.SeqAt.RcNeAt.tuple_int _ _ l hu0⟩
  | str j=>subst e;cases r1;cases h2.strs;obtain ⟨t2,rfl⟩:=r2;simp [eqD] at h;subst h;exact ⟨SeqAt.RcAt.tuple_str _ _ l hu0,PySem.SeqAt.RcNeAt.tuple_str _ _ l hu0⟩
  | tup ys=>obtain ⟨a',i',e',l'⟩:=bu I h2;exact seq e e'
  | ref k=>obtain ⟨c,hc,ec⟩:=h2.refs;exact seq e ec
 | ref k=>
  obtain ⟨c,hc,ec⟩:=h1.refs
  cases y with
  | tup ys=>obtain ⟨a',i',e',l'⟩:=bu I h2;exact seq ec e'
  | ref k=>obtain ⟨c,hc,ec'⟩:=h2.refs;exact seq ec ec'
  | non=>
   simp only [eqD] at h
   cases hs:aj S k with
   | none=>rw [hs] at h;cases h
   | some es=>rw [hs] at h;cases h;obtain ⟨a,i,e,l⟩:=be I R h1 hs;subst e;cases r1;cases h2.nons;cases r2;exact ⟨SeqAt.RcAt.list_none l hu0,PySem.SeqAt.RcNeAt.list_none l hu0⟩
  | bl j=>
   simp only [eqD] at h
   cases hs:aj S k with
   | none=>rw [hs] at h;cases h
   | some es=>rw [hs] at h;cases h;obtain ⟨a,i,e,l⟩:=be I R h1 hs;subst e;cases r1;cases h2.bls;cases r2;exact ⟨SeqAt.RcAt.list_bool _ l hu0,PySem.SeqAt.RcNeAt.list_bool _ l hu0⟩
  | int j=>
   simp only [eqD] at h
   cases hs:aj S k with
   | none=>rw [hs] at h;cases h
   | some es=>rw [hs] at h;cases h;obtain ⟨a,i,e,l⟩:=be I R h1 hs;subst e;cases r1;cases h2.ints;obtain ⟨t2,rfl⟩:=r2;exact ⟨SeqAt.RcAt.list_int _ _ l hu0,PySem.SeqAt.RcNeAt.list_int _ _ l hu0⟩
  | str j=>
   simp only [eqD] at h
   cases hs:aj S k with
   | none=>rw [hs] at h;cases h
   | some es=>rw [hs] at h;cases h;obtain ⟨a,i,e,l⟩:=be I R h1 hs;subst e;cases r1;cases h2.strs;obtain ⟨t2,rfl⟩:=r2;exact ⟨SeqAt.RcAt.list_str _ _ l hu0,PySem.SeqAt.RcNeAt.list_str _ _ l hu0⟩
noncomputable def eqS (x y:D) (S:Sto):Option (D × Sto):=(eqD 60 S x y).map fun b=>(.bl b,S)
noncomputable def neS (x y:D) (S:Sto):Option (D × Sto):=(eqD 60 S x y).map fun b=>(.bl (!b),S)
theorem Fn (hu:X.A.units+64 < cLine):OpR X (compareOp .Eq) (rS X.K eqS):=by
 intro pins s σ H x y v u Q I rx ry h
 obtain ⟨m,S,a,b,d,S',R,va,vb,e,q⟩:=h
 unfold eqS at e
 cases he:eqD 60 S a b with
 | none=>rw [he] at e;cases e
 | some c=>
  rw [he] at e
  cases e
  exact (JI I R 59 va vb rx ry he (by omega)).1 _ _ _ _ ⟨.bl c,H,I,rfl,q m H _ (Aft.refl R) bN⟩
theorem Fo (hu:X.A.units+64 < cLine):OpR X (compareOp .NotEq) (rS X.K neS):=by
 intro pins s σ H x y v u Q I rx ry h
 obtain ⟨m,S,a,b,d,S',R,va,vb,e,q⟩:=h
 unfold neS at e
 cases he:eqD 60 S a b with
 | none=>rw [he] at e;cases e
 | some c=>
  rw [he] at e
  cases e
  exact (JI I R 59 va vb rx ry he (by omega)).2 _ _ _ _ ⟨.bl (!c),H,I,rfl,q m H _ (Aft.refl R) bN⟩
end
end Ev
namespace Ev
open PySem PySem.Spec PyProof.Rows L2
noncomputable def Fp (a b:Nat) (S:Sto):Option (D × Sto):=match S[a]? with
 | some (.lst xs)=>(match S[b]? with
  | some (.lst ys)=>if xs.length+ys.length<=100000 then some (.ref S.length,S++[.lst (xs++ys)]) else none
  | _=>none)
 | _=>none
noncomputable def jU:D->D->Sto->Option (D × Sto)
 | .int i,.int j,S=>some (.int (i+j),S)
 | .tup xs,.tup ys,S=>if xs.length+ys.length<=1000 then some (.tup (xs++ys),S) else none
 | .ref a,.ref b,S=>Fp a b S
 | .str x,.str y,S=>if x.length+y.length<=100000 then some (.str (x++y),S) else none
 | _,_,_=>none
noncomputable def JJ:D->D->Sto->Option (D × Sto)
 | .int i,.int j,S=>some (.int (i - j),S)
 | _,_,_=>none
noncomputable def iw (i j:Int):Bool:=(decide (-(2 ^ 64) < i) && decide (i < 2 ^ 64)) || (decide (-(2 ^ 64) < j) && decide (j < 2 ^ 64))
noncomputable def vh:D->D->Sto->Option (D × Sto)
 | .int i,.int j,S=>if iw i j=true then some (.int (i * j),S) else none
 | _,_,_=>none
noncomputable def Fq:D->D->Sto->Option (D × Sto)
 | .int i,.int j,S=>if 0 < j then some (.int (i % j),S) else none
 | _,_,_=>none
noncomputable def xz:D->D->Sto->Option (D × Sto)
 | .int i,.int j,S=>if 0 < j/\j < 1073741824 then some (.int (i / j),S) else none
 | _,_,_=>none
noncomputable def Fr:D->D->Sto->Option (D × Sto)
 | .int i,.int j,S=>if 0<=j/\j<=1000000/\i.natAbs < 2 ^ 64 then some (.int (i ^ j.toNat),S) else none
 | _,_,_=>none
inductive BOp where | add | sub | mul | mod | fdiv | pow
noncomputable def bG:BOp->D->D->Sto->Option (D × Sto)
 | .add=>jU | .sub=>JJ | .mul=>vh | .mod=>Fq | .fdiv=>xz | .pow=>Fr
noncomputable def BOp.op:BOp->Operator
 | .add=>.Add | .sub=>.Sub | .mul=>.Mult | .mod=>.Mod | .fdiv=>.FloorDiv | .pow=>.Pow
section
variable {X:Cx} {K:PySem.W.Frag} {m:List Addr} {H:Hp} {S:Sto}
theorem gj {op:Operator} {f:D->D->Sto->Option (D × Sto)} {C:Int->Int->Prop} {g:Int->Int->Int} (ho:OpR X (binaryOp op) (rI C fun i j=>.int (g i j)))
  (hf:∀ a b S d S',f a b S=some (d,S')->∃ i j,a = .int i/\b = .int j/\C i j/\d = .int (g i j)/\S'=S):OpR X (binaryOp op) (rS X.K f):=by
 refine OpR.imp ho fun x y H Q h=>?_
 obtain ⟨m,S,a,b,d,S',R,va,vb,e,q⟩:=h
 obtain ⟨i,j,rfl,rfl,c,rfl,rfl⟩:=hf _ _ _ _ _ e
 exact ⟨i,j,va.ints,vb.ints,c,q m H _ (Aft.refl R) bm⟩
theorem rE:OpR X (binaryOp .Add) (fun x y H Q=>∃ m S xs ys,Rel X.K m S H/\VD X.K m H (.tup xs) x/\VD X.K m H (.tup ys) y/\xs.length+ys.length<=1000/\∀ m' H' u,Aft X.K m H S m' H'->VD X.K m' H' (.tup (xs++ys)) u->Q u H'):=by
 refine OpR.imp AC fun x y H Q h=>?_
 obtain ⟨m,S,xs,ys,R,va,vb,hl,q⟩:=h
 obtain ⟨a,vs,rfl,sa,da⟩:=va.tups
 obtain ⟨b,ws,rfl,sb,db⟩:=vb.tups
 have l1:=da.length
 have l2:=db.length
 refine ⟨a,b,vs,ws,rfl,rfl,.of sa,.of sb,kE (by omega),fun e=>?_,fun _ e=>?_,fun _ _=>jZ R (da.append db) q⟩
 ·subst e
  have e:xs=[]:=List.length_eq_zero_iff.mp (by simpa using l1)
  subst e
  exact q m H _ (Aft.refl R) vb
 ·subst e
  have e:ys=[]:=List.length_eq_zero_iff.mp (by simpa using l2)
  subst e
  rw [List.append_nil] at q
  exact q m H _ (Aft.refl R) va
theorem AO:OpR X (binaryOp .Add) (rS X.K jU):=by
 refine OpR.imp (OpR.or EH (OpR.or rE (OpR.or qZ E6))) fun x y H Q h=>?_
 obtain ⟨m,S,a,b,d,S',R,va,vb,e,q⟩:=h
 cases a with
 | int i=>
  cases b with
  | int j=>cases e;exact .inl ⟨i,j,va.ints,vb.ints,q m H _ (Aft.refl R) bm⟩
  | _=>simp [jU] at e
 | tup xs=>
  cases b with
  | tup ys=>
   simp only [jU] at e
   split at e
   ·rename_i hl
    cases e
    exact .inr (.inl ⟨m,S,xs,ys,R,va,vb,hl,q⟩)
   ·cases e
  | _=>simp [jU] at e
 | str i=>
  cases b with
  | str j=>
   simp only [jU] at e
   split at e
   ·rename_i hl
    cases e
    exact .inr (.inr (.inl ⟨i,j,va.strs,vb.strs,by rw [sizeLine_eq];omega,q m H _ (Aft.refl R) rD⟩))
   ·cases e
  | _=>simp [jU] at e
 | ref i=>
  cases b with
  | ref j=>
   simp only [jU,Fp] at e
   split at e
   ·rename_i xs hx
    split at e
    ·rename_i ys hy
     split at e
     ·rename_i hl
      cases e
      obtain ⟨a,vs,ha,hH,q1⟩:=R.lst hx
      obtain ⟨c,ws,hc,hG,q2⟩:=R.lst hy
      obtain ⟨a',ha',e1⟩:=va.refs
      obtain ⟨c',hc',e2⟩:=vb.refs
      rw [ha] at ha'
      cases ha'
      rw [hc] at hc'
      cases hc'
      exact .inr (.inr (.inr ⟨a,c,vs,ws,e1,e2,hH,hG,by rw [sizeLine_eq,<-q1.length,<-q2.length];omega,tH R (q1.append q2) q⟩))
     ·cases e
    ·cases e
   ·cases e
  | _=>simp [jU] at e
 | _=>cases b <;> simp [jU] at e
theorem AQ:OpR X (binaryOp .Mult) (rS X.K vh):=by
 refine OpR.imp EJ fun x y H Q h=>?_
 obtain ⟨m,S,a,b,d,S',R,va,vb,e,q⟩:=h
 cases a with
 | int i=>
  cases b with
  | int j=>
   simp only [vh] at e
   split at e
   ·rename_i hc
    cases e
    simp only [iw,Bool.or_eq_true,bAE,decide_eq_true_eq] at hc
    exact ⟨i,j,va.ints,vb.ints,hc,q m H _ (Aft.refl R) bm⟩
   ·cases e
  | _=>simp [vh] at e
 | _=>cases b <;> simp [vh] at e
theorem AR (o:BOp):OpR X (binaryOp o.op) (rS X.K (bG o)):=by
 cases o with
 | add=>exact AO
 | sub=>
  refine gj (C:=fun _ _=>True) (g:=fun i j=>i - j) (OpR.imp EI fun x y H Q ⟨i,j,a,b,_,q⟩=>⟨i,j,a,b,q⟩) fun a b S d S' e=>?_
  cases a <;> cases b <;> simp [bG,JJ] at e
  exact ⟨_,_,rfl,rfl,trivial,e.1.symm,e.2.symm⟩
 | mul=>exact AQ
 | mod=>
  refine gj EK fun a b S d S' e=>?_
  cases a <;> cases b <;> simp [bG,Fq] at e
  rename_i i j
  exact ⟨i,j,rfl,rfl,e.1,e.2.1.symm,e.2.2.symm⟩
 | fdiv=>
  refine gj Ad fun a b S d S' e=>?_
  cases a <;> cases b <;> simp [bG,xz] at e
  rename_i i j
  exact ⟨i,j,rfl,rfl,e.1,e.2.1.symm,e.2.2.symm⟩
 | pow=>
  refine gj EL fun a b S d S' e=>?_
  cases a <;> cases b <;> simp [bG,Fr] at e
  rename_i i j
  exact ⟨i,j,rfl,rfl,e.1,e.2.1.symm,e.2.2.symm⟩
noncomputable def vj (p:Int->Int->Bool):D->D->Sto->Option (D × Sto)
 | .int i,.int j,S=>some (.bl (p i j),S)
 | _,_,_=>none
noncomputable def pV:D->Bool
 | .non=>true
 | _=>false
noncomputable def isB (neg:Bool):D->D->Sto->Option (D × Sto)
 | d,.non,S=>some (.bl (neg != pV d),S)
 | .bl a,.bl b,S=>some (.bl (neg != (a == b)),S)
 | _,_,_=>none
noncomputable def cm:D->Bool
 | .non=>true | .bl _=>true | .int _=>true | .str _=>true | _=>false
noncomputable def eqF:D->D->Bool
 | .non,.non=>true
 | .bl a,.bl b=>a == b
 | .bl a,.int b=>(if a then 1 else 0) == b
 | .int a,.bl b=>a == (if b then 1 else 0)
 | .int a,.int b=>a == b
 | .str a,.str b=>a == b
 | _,_=>false
noncomputable def inF (x:D) (ds:List D):Bool:=ds.any fun y=>eqF y x
noncomputable def inD (x:D) (ds:List D) (S:Sto):Option Bool:=if (ds.all fun y=>(eqD 58 S y x).isSome)=true then some (ds.any fun y=>eqD 58 S y x == some true) else none
noncomputable def inS (neg:Bool) (x y:D) (S:Sto):Option (D × Sto):=match ak y S with
 | some (_,ds)=>if cm x=true/\ds.all cm=true then some (.bl (neg != inF x ds),S) else (inD x ds S).map fun b=>(.bl (neg != b),S)
 | none=>none
inductive COp where | eq | ne | lt | le | gt | ge | is | isnot | isin | notin
noncomputable def av:COp->D->D->Sto->Option (D × Sto)
 | .eq=>eqS | .ne=>neS
 | .lt=>vj fun i j=>decide (i < j) | .le=>vj fun i j=>decide (i<=j) | .gt=>vj fun i j=>decide (j < i) | .ge=>vj fun i j=>decide (j<=i)
 | .is=>isB false | .isnot=>isB true | .isin=>inS false | .notin=>inS true
noncomputable def COp.op:COp->CmpOp
 | .eq=>.Eq | .ne=>.NotEq | .lt=>.Lt | .le=>.LtE | .gt=>.Gt | .ge=>.GtE | .is=>.Is | .isnot=>.IsNot | .isin=>.In | .notin=>.NotIn
theorem eJ {op:CmpOp} {p:Int->Int->Bool} (ho:OpR X (compareOp op) (rI0 fun i j=>.bl (p i j))):OpR X (compareOp op) (rS X.K (vj p)):=by
 refine OpR.imp ho fun x y H Q h=>?_
 obtain ⟨m,S,a,b,d,S',R,va,vb,e,q⟩:=h
 cases a <;> cases b <;> simp [vj] at e
 obtain ⟨rfl,rfl⟩:=e
 exact ⟨_,_,va.ints,vb.ints,q m H _ (Aft.refl R) bN⟩
theorem j7 {x:D} {v:V} (h:VD K m H x v) (f:cm x=true):dQ v=true:=by
 cases x <;> simp [cm] at f
 ·cases h.nons;rfl
 ·cases h.bls;rfl
 ·cases h.ints;rfl
 ·cases h.strs;rfl
theorem xD {x y:D} {v w:V} (h:VD K m H x v) (f:cm x=true) (h':VD K m H y w) (f':cm y=true):eqV v w=eqF x y:=by
 cases x <;> simp [cm] at f <;> cases y <;> simp [cm] at f' <;> simp [VD] at h h' <;> subst h <;> subst h' <;> rfl
theorem iy:∀ {ds:List D} {vs:List V},VDs K m H ds vs->ds.all cm=true->vs.all dQ=true
 | [],vs,h,_=>by rw [VDs] at h;rw [h];rfl
 | d::ds,vs,h,f=>by
  rw [VDs] at h
  obtain ⟨x,r,rfl,p,q⟩:=h
  rw [List.all_cons,bAE] at f
  rw [List.all_cons,j7 p f.1,iy q f.2];rfl
theorem rF {x:D} {v:V} (h:VD K m H x v) (f:cm x=true):∀ {ds:List D} {vs:List V},VDs K m H ds vs->ds.all cm=true->inV v vs=inF x ds
 | [],vs,h,_=>by rw [VDs] at h;rw [h];rfl
 | d::ds,vs,h',f'=>by
  rw [VDs] at h'
  obtain ⟨y,r,rfl,p,q⟩:=h'
  rw [List.all_cons,bAE] at f'
  have ih:=rF h f q f'.2
  unfold inV inF at ih ⊢
  rw [List.any_cons,List.any_cons,xD p f'.1 h f,ih]
theorem mN {x:D} {v:V} (h:VD K m H x v) (f:cm x=true):∀ {ds:List D} {vs:List V},VDs K m H ds vs->ds.all cm=true->(vs.countP fun z=>eqV z v)=ds.countP fun z=>eqF z x
 | [],vs,h,_=>by rw [VDs] at h;rw [h];rfl
 | d::ds,vs,h',f'=>by
  rw [VDs] at h'
  obtain ⟨y,r,rfl,p,q⟩:=h'
  rw [List.all_cons,bAE] at f'
  rw [List.countP_cons,List.countP_cons,xD p f'.1 h f,mN h f q f'.2]
theorem gU {tu:Bool} {a:Addr} {vs:List V} (h:SqB K tu H a vs):SqL K H a vs\/SqT K H a vs:=by
 cases tu with
 | false=>exact .inl h
 | true=>exact .inr (.of h)
theorem oh {pins:List (Addr × Obj)} {σ:L2.St} {s:Shared} (I:Inv X pins σ H s) (R:Rel X.K m S H) {x:D} {v:V} {u:Value} (vx:VD X.K m H x v) (rx:aK v u) {A:Around} (hu:A.units+58 < cLine) {ds:List D} {vs:List V} {its:List Value} (vd:VDs X.K m H ds vs) (r:aM vs its) {b:Bool} (h:inD x ds S=some b) :
  ∃ e:Value->Bool,(∀ w ∈ its,SeqAt.EqAt A s w u (e w))/\its.any e=b:=by
 unfold inD at h
 split at h
 ·rename_i hs
  cases h
  rw [List.all_eq_true] at hs
  have at_:∀ (i:Nat) w,its[i]?=some w->∃ y v',ds[i]?=some y/\VD X.K m H y v'/\aK v' w:=fun i w hw=>by
   have hi:=(List.getElem?_eq_some_iff.mp hw).1
   obtain ⟨y,v',e1,e2,e3⟩:=n9 vd r (j:=i) (by simpa using hi)
   refine ⟨y,v',e1,e2,?_⟩
   have:its.toArray[i]=w:=by
    have:=(List.getElem?_eq_some_iff.mp hw).2
    simpa using this
   rw [<-this];exact e3
  refine ⟨fun w=>@decide (∃ (i:Nat) (y:D),ds[i]?=some y/\its[i]?=some w/\eqD 58 S y x=some true) (Classical.propDecidable _),fun w hw=>?_,?_⟩
  ·obtain ⟨i,hi⟩:=List.getElem?_of_mem hw
   dsimp only
   by_cases hq:∃ (i:Nat) (y:D),ds[i]?=some y/\its[i]?=some w/\eqD 58 S y x=some true
   ·rw [@decide_eq_true _ (Classical.propDecidable _) hq]
    obtain ⟨j,y,e1,e2,e3⟩:=hq
    obtain ⟨y',v',f1,f2,f3⟩:=at_ j w e2
    rw [e1] at f1
    cases f1
    exact oe I R 58 A y x v' v w u true f2 vx f3 rx e3 hu
   ·rw [@decide_eq_false _ (Classical.propDecidable _) hq]
    obtain ⟨y,v',f1,f2,f3⟩:=at_ i w hi
    obtain ⟨c,hc⟩:=Option.isSome_iff_exists.mp (hs y (List.mem_of_getElem? f1))
    cases c with
    | true=>exact absurd ⟨i,y,f1,hi,hc⟩ hq
    | false=>exact oe I R 58 A y x v' v w u false f2 vx f3 rx hc hu
  ·rw [Bool.eq_iff_iff,List.any_eq_true,List.any_eq_true]
   constructor
   ·rintro ⟨w,_,hw⟩
    obtain ⟨i,y,e1,_,e3⟩:=@of_decide_eq_true _ (Classical.propDecidable _) hw
    exact ⟨y,List.mem_of_getElem? e1,by rw [e3];rfl⟩
   ·rintro ⟨y,hy,e⟩
    obtain ⟨i,hi⟩:=List.getElem?_of_mem hy
    obtain ⟨v',hv,_⟩:=vd.get hi
    obtain ⟨w,hw,_⟩:=r.get hv
    exact ⟨w,List.mem_of_getElem? hw,@decide_eq_true _ (Classical.propDecidable _) ⟨i,y,hi,hw,by simpa using e⟩⟩
 ·cases h
theorem Fs (hu:X.A.units+64 < cLine):OpR X (compareOp .In) (rS X.K (inS false)):=by
 intro pins s σ H x y v u Q I rx ry h
 obtain ⟨m,S,a,b,d,S',R,va,vb,e,q⟩:=h
 unfold inS at e
 split at e
 ·rename_i tu ds hi
  obtain ⟨p,vs,rfl,sq,vds⟩:=dS R vb hi
  split at e
  ·rename_i hf
   cases e
   refine uM pins s σ H x _ v u Q I rx ry ⟨p,vs,rfl,gU sq,j7 va hf.1,iy vds hf.2,q m H _ (Aft.refl R) ?_⟩
   rw [if_neg (by decide),rF va hf.1 vds hf.2]
   simpa using bN
  ·cases hd:inD a ds S with
   | none=>rw [hd] at e;cases e
   | some c=>
    rw [hd] at e
    cases e
    cases ry
    have ha:X.A.in1.units+58 < cLine:=by show X.A.units+1+58 < cLine;omega
    rcases gU sq with hq | hq
    ·obtain ⟨its,r,pl,hz⟩:=I.list hq
     obtain ⟨e,he,hb⟩:=oh I R va rx ha vds r hd
     refine SeqAt.in_listAt e pl.isList (fun w hw=>he w (by simpa using hw)) ⟨.bl _,H,I,rfl,?_⟩
     rw [show its.toArray.any e=its.any e by simp,hb]
     exact q m H _ (Aft.refl R) (by simpa using bN)
    ·obtain ⟨its,r,pl,hz⟩:=I.tuple hq
     obtain ⟨e,he,hb⟩:=oh I R va rx ha vds r hd
     refine SeqAt.in_tupleAt e pl (fun w hw=>he w (by simpa using hw)) ⟨.bl _,H,I,rfl,?_⟩
     rw [show its.toArray.any e=its.any e by simp,hb]
     exact q m H _ (Aft.refl R) (by simpa using bN)
 ·cases e
theorem vk (hu:X.A.units+64 < cLine):OpR X (compareOp .NotIn) (rS X.K (inS true)):=by
 intro pins s σ H x y v u Q I rx ry h
 obtain ⟨m,S,a,b,d,S',R,va,vb,e,q⟩:=h
 unfold inS at e
 split at e
 ·rename_i tu ds hi
  obtain ⟨p,vs,rfl,sq,vds⟩:=dS R vb hi
  split at e
  ·rename_i hf
   cases e
   refine nM pins s σ H x _ v u Q I rx ry ⟨p,vs,rfl,gU sq,j7 va hf.1,iy vds hf.2,q m H _ (Aft.refl R) ?_⟩
   rw [if_pos rfl,rF va hf.1 vds hf.2]
   simpa using bN
  ·cases hd:inD a ds S with
   | none=>rw [hd] at e;cases e
   | some c=>
    rw [hd] at e
    cases e
    cases ry
    have ha:X.A.in1.units+58 < cLine:=by show X.A.units+1+58 < cLine;omega
    rcases gU sq with hq | hq
    ·obtain ⟨its,r,pl,hz⟩:=I.list hq
     obtain ⟨e,he,hb⟩:=oh I R va rx ha vds r hd
     refine SeqAt.notIn_listAt e pl.isList (fun w hw=>he w (by simpa using hw)) ⟨.bl _,H,I,rfl,?_⟩
     rw [show its.toArray.any e=its.any e by simp,hb]
     exact q m H _ (Aft.refl R) (by simpa using bN)
    ·obtain ⟨its,r,pl,hz⟩:=I.tuple hq
     obtain ⟨e,he,hb⟩:=oh I R va rx ha vds r hd
     refine SeqAt.notIn_tupleAt e pl (fun w hw=>he w (by simpa using hw)) ⟨.bl _,H,I,rfl,?_⟩
     rw [show its.toArray.any e=its.any e by simp,hb]
     exact q m H _ (Aft.refl R) (by simpa using bN)
 ·cases e
theorem xE {d:D} {v:V} (h:VD K m H d v):decide (v=V.non)=pV d:=by
 cases d with
 | non=>cases h.nons;rfl
 | bl _=>cases h.bls;rfl
 | int _=>cases h.ints;rfl
 | str _=>cases h.strs;rfl
 | tup _=>obtain ⟨_,_,e,_⟩:=h.tups;subst e;rfl
 | ref _=>obtain ⟨_,_,e⟩:=h.refs;subst e;rfl
theorem Ft:OpR X (compareOp .Is) (rS X.K (isB false)):=by
 refine OpR.imp (OpR.or EN E8) fun x y H Q h=>?_
 obtain ⟨m,S,a,b,d,S',R,va,vb,e,q⟩:=h
 cases b with
 | non=>
  simp [isB] at e
  obtain ⟨rfl,rfl⟩:=e
  exact .inl ⟨vb.nons,q m H _ (Aft.refl R) (by rw [xE va];exact bN)⟩
 | bl j=>
  cases a with
  | bl i=>
   simp [isB] at e
   obtain ⟨rfl,rfl⟩:=e
   exact .inr ⟨i,j,va.bls,vb.bls,q m H _ (Aft.refl R) bN⟩
  | _=>simp [isB] at e
 | _=>cases a <;> simp [isB] at e
theorem vm:OpR X (compareOp .IsNot) (rS X.K (isB true)):=by
 refine OpR.imp (OpR.or Ae uU) fun x y H Q h=>?_
 obtain ⟨m,S,a,b,d,S',R,va,vb,e,q⟩:=h
 cases b with
 | non=>
  simp [isB] at e
  obtain ⟨rfl,rfl⟩:=e
  exact .inl ⟨vb.nons,q m H _ (Aft.refl R) (by rw [xE va];exact bN)⟩
 | bl j=>
  cases a with
  | bl i=>
   simp [isB] at e
   obtain ⟨rfl,rfl⟩:=e
   exact .inr ⟨i,j,va.bls,vb.bls,q m H _ (Aft.refl R) (by simpa [bne] using bN)⟩
  | _=>simp [isB] at e
 | _=>cases a <;> simp [isB] at e
theorem gk (hu:X.A.units+64 < cLine) (o:COp):OpR X (compareOp o.op) (rS X.K (av o)):=by
 cases o with
 | eq=>exact Fn hu
 | ne=>exact Fo hu
 | lt=>exact eJ Jr
 | le=>exact eJ Js
 | gt=>exact eJ Jt
 | ge=>exact eJ Ju
 | is=>exact Ft
 | isnot=>exact vm
 | isin=>exact Fs hu
 | notin=>exact vk hu
end
end Ev
namespace Ev
open PySem PySem.Spec PyProof.Rows L2
section
variable {X:Cx} {K:PySem.W.Frag} {m:List Addr} {H:Hp} {S:Sto}
noncomputable def ixS (d i:D) (S:Sto):Option (D × Sto):=match i with
 | .int k=>(match d with
  | .str z=>if z.length<=100000 then (atI z.cps.toList k).map fun c=>(.str ⟨#[c]⟩,S) else none
  | d=>(match ak d S with
   | some (_,ds)=>(atI ds k).map fun x=>(x,S)
   | none=>none))
 | _=>none
theorem Fu {ds:List D} {vs:List V} {k:Int} {d:D} (h:VDs K m H ds vs) (e:atI ds k=some d):∃ v,atI vs k=some v/\VD K m H d v:=by
 unfold atI at e ⊢
 rw [<-h.length]
 cases hi:ixN ds.length k with
 | none=>rw [hi] at e;cases e
 | some j=>
  rw [hi] at e
  exact h.get e
theorem xF {ds:List D} {tu:Bool} {a:Addr} {vs:List V} {k:Int} {d:D} {Q:VK} (sq:SqB K tu H a vs) (vd:VDs K m H ds vs) (e:atI ds k=some d) (q:∀ v,VD K m H d v->Q v H):rIx K (.ref a) (.int k) H Q:=by
 obtain ⟨v,ev,vv⟩:=Fu vd e
 cases tu with
 | false=>exact .inl ⟨a,vs,k,v,rfl,rfl,sq,ev,q v vv⟩
 | true=>exact .inr (.inl ⟨a,vs,k,v,rfl,rfl,.of sq,ev,q v vv⟩)
theorem L7:IxR X (rS X.K ixS):=by
 intro value slice pins s σ H x y v u Q I rx ry h hs
 refine wV value slice pins s σ H x y v u Q I rx ry ?_ hs
 obtain ⟨m,S,a,b,d,S',R,va,vb,e,q⟩:=h
 cases b with
 | int k=>
  cases vb.ints
  have main:∀ r,ak a S=some r->(atI r.2 k).map (fun x=>(x,S))=some (d,S')->rIx X.K x (.int k) H Q:=by
   intro r hi e
   cases ha:atI r.2 k with
   | none=>rw [ha] at e;cases e
   | some z=>
    rw [ha] at e
    cases e
    obtain ⟨p,vs,rfl,sq,vds⟩:=dS (tu:=r.1) (ds:=r.2) R va hi
    exact xF sq vds ha fun v vv=>q m H v (Aft.refl R) vv
  cases a with
  | str z=>
   simp only [ixS] at e
   split at e
   ·rename_i hl
    cases hc:atI z.cps.toList k with
    | none=>rw [hc] at e;cases e
    | some c=>
     rw [hc] at e
     cases e
     exact .inr (.inr ⟨z,k,c,va.strs,rfl,by rw [sizeLine_eq];omega,hc,q m H _ (Aft.refl R) rD⟩)
   ·cases e
  | tup ds=>exact main (true,ds) rfl e
  | ref n=>
   simp only [ixS] at e
   cases hi:ak (.ref n) S with
   | none=>rw [hi] at e;cases e
   | some r=>rw [hi] at e;exact main r hi e
  | _=>simp [ixS,ak] at e
 | _=>simp [ixS] at e
noncomputable def rG (x:XA) (y:XE):XE:=fun ρ S=>bnd (x ρ S) fun ds S1=>bnd (y ρ S1) fun i S2=>match i with
 | .int k=>(atI ds k).map fun d=>(d,S2)
 | _=>none
theorem Fv {x:XA} {y:XE} {σ:L2.St} {H:Hp} {Q:VK} (h:tE K (rG x y) σ H Q):tOp (rIx K) (eI K x) (tE K y) σ H Q:=by
 obtain ⟨m,ρ,S,d,S',E,R,e,q⟩:=h
 obtain ⟨ds,S1,e1,e⟩:=ab e
 obtain ⟨i,S2,e2,e⟩:=ab e
 refine ⟨m,ρ,S,ds,S1,E,R,e1,fun m1 H1 a vs A1 sq n1 n2 n3 vd=>⟨m1,ρ,S1,i,S2,E.mono R A1.ext,A1.rel,e2,fun m2 H2 w A2 vb=>?_⟩⟩
 cases i with
 | int k=>
  cases vb.ints
  dsimp only at e
  cases ha:atI ds k with
  | none=>rw [ha] at e;cases e
  | some z=>
   rw [ha] at e
   cases e
   exact xF (tu:=false) (show SqL K H2 a vs from SqL.of (A2.ext.keep _ _ sq n1)) (vd.mono A1.rel A2.ext) ha fun v vv=>q m2 H2 v (A1.trans A2) vv
 | _=>cases e
noncomputable def gC (ds:List D) (lo hi:Option Int):List D:=(ds.drop (HT.sIx ds.length 0 lo)).take (HT.sIx ds.length ds.length hi - HT.sIx ds.length 0 lo)
theorem rH {ds:List D} {vs:List V} (h:VDs K m H ds vs) (lo hi:Option Int):VDs K m H (gC ds lo hi) (kj vs lo hi):=by
 unfold gC kj
 rw [<-h.length]
 exact (h.drop _).take _
noncomputable def slS (lo hi:Option Int) (d:D) (S:Sto):Option (D × Sto):=match d with
 | .tup ds=>some (.tup (gC ds lo hi),S)
 | .ref n=>(match aj S n with
  | some ds=>some (.ref S.length,S++[.lst (gC ds lo hi)])
  | none=>none)
 | _=>none
noncomputable def rSl (K:PySem.W.Frag):V->Option Int->Option Int->Hp->VK->Prop:=fun v lo hi H Q=>∃ m S a d S',Rel K m S H/\VD K m H a v/\slS lo hi a S=some (d,S')/\∀ m' H' u,Aft K m H S' m' H'->VD K m' H' d u->Q u H'
theorem rJ {vs:List V} {lo hi:Option Int} (h:HT.sIx vs.length 0 lo=0/\HT.sIx vs.length vs.length hi=vs.length):kj vs lo hi=vs:=by
 unfold kj
 rw [h.1,h.2];simp
theorem L8:SlR X (rSl X.K):=by
 intro pins s σ H x v vl vu lo hi sl Q I rx hs pl pu h
 refine (SlR.or AD Aq) pins s σ H x v vl vu lo hi sl Q I rx hs pl pu ?_
 obtain ⟨m,S,a,d,S',R,va,e,q⟩:=h
 cases a with
 | tup ds=>
  cases e
  obtain ⟨p,vs,rfl,sq,vds⟩:=va.tups
  refine .inl ⟨p,vs,rfl,.of sq,fun hw=>?_,fun _=>jZ R (rH vds lo hi) q⟩
  have:=rH vds lo hi
  rw [rJ hw] at this
  exact q m H _ (Aft.refl R) (kD sq this)
 | ref n=>
  simp only [slS] at e
  cases hn:aj S n with
  | none=>rw [hn] at e;cases e
  | some ds=>
   rw [hn] at e
   cases e
   obtain ⟨p,vs,hp,sq,vds⟩:=R.seq hn
   obtain ⟨p',hp',rfl⟩:=va.refs
   rw [hp] at hp'
   cases hp'
   exact .inr ⟨p,vs,rfl,sq,tH R (rH vds lo hi) q⟩
 | _=>cases e
noncomputable abbrev XO:=Rho->Sto->Option (Option Int × Sto)
noncomputable def tOI (K:PySem.W.Frag) (x:XO):TO:=fun σ H Q=>∃ m ρ S o S',EnvR K m H ρ σ/\Rel K m S H/\x ρ S=some (o,S')/\∀ m' H',Aft K m H S' m' H'->Q o H'
noncomputable def rK:XO:=fun _ S=>some (none,S)
noncomputable def rL (x:XE):XO:=fun ρ S=>bnd (x ρ S) fun d S1=>match d with
 | .int i=>some (some i,S1)
 | _=>none
theorem AS {σ:L2.St} {H:Hp} {Q:Option Int->Hp->Prop} (h:tOI K rK σ H Q):sZ σ H Q:=by
 obtain ⟨m,ρ,S,o,S',E,R,e,q⟩:=h
 cases e
 exact q m H (Aft.refl R)
theorem AU {x:XE} {σ:L2.St} {H:Hp} {Q:Option Int->Hp->Prop} (h:tOI K (rL x) σ H Q):DI (tE K x) σ H Q:=by
 obtain ⟨m,ρ,S,o,S',E,R,e,q⟩:=h
 obtain ⟨d,S1,e1,e⟩:=ab e
 refine ⟨m,ρ,S,d,S1,E,R,e1,fun m1 H1 v A1 vd=>?_⟩
 cases d with
 | int i=>cases e;exact ⟨i,vd.ints,q m1 H1 A1⟩
 | _=>cases e
theorem PO.imp {e:Option Expr} {t t':TO} (h:PO X e t) (f:∀ σ H Q,t' σ H Q->t σ H Q):PO X e t':=fun pins s σ H Q I q=>h pins s σ H Q I (f σ H Q q)
noncomputable def xSl (x:XE) (lo hi:XO):XE:=fun ρ S=>bnd (x ρ S) fun d S1=>bnd (lo ρ S1) fun l S2=>bnd (hi ρ S2) fun h S3=>slS l h d S3
theorem JK {x:XE} {lo hi:XO} {σ:L2.St} {H:Hp} {Q:VK} (h:tE K (xSl x lo hi) σ H Q):tSl (rSl K) (tE K x) (tOI K lo) (tOI K hi) σ H Q:=by
 obtain ⟨m,ρ,S,d,S',E,R,e,q⟩:=h
 obtain ⟨a,S1,e1,e⟩:=ab e
 obtain ⟨l,S2,e2,e⟩:=ab e
 obtain ⟨u,S3,e3,e⟩:=ab e
 refine ⟨m,ρ,S,a,S1,E,R,e1,fun m1 H1 v A1 vd=>⟨m1,ρ,S1,l,S2,E.mono R A1.ext,A1.rel,e2,fun m2 H2 A2=>⟨m2,ρ,S2,u,S3,E.mono R (A1.trans A2).ext,A2.rel,e3,fun m3 H3 A3=>?_⟩⟩⟩
 exact ⟨m3,S3,a,d,S',A3.rel,vd.mono A1.rel (A2.trans A3).ext,e,fun m4 H4 w A4 vw=>q m4 H4 w (((A1.trans A2).trans A3).trans A4) vw⟩
noncomputable def kF (d:D) (S:Sto):Option (Bool × Sto):=match d with
 | .non=>some (false,S)
 | .bl b=>some (b,S)
 | .int i=>some (i != 0,S)
 | .str y=>if y.length<=100000 then some ((y.length:Int) != 0,S) else none
 | .tup ds=>some (!ds.isEmpty,S)
 | .ref n=>(match aj S n with
  | some ds=>some (!ds.isEmpty,S)
  | none=>none)
theorem kG {ds:List D} {vs:List V} (h:VDs K m H ds vs):ds.isEmpty=vs.isEmpty:=by
 have:=h.length
 cases ds <;> cases vs <;> simp at this ⊢
theorem Fw {d:D} {v:V} {b:Bool} {S':Sto} (R:Rel K m S H) (vd:VD K m H d v) (e:kF d S=some (b,S')):S'=S/\Ah K v H b:=by
 cases d with
 | non=>cases e;cases vd.nons;exact ⟨rfl,rfl⟩
 | bl _=>cases e;cases vd.bls;exact ⟨rfl,rfl⟩
 | int _=>cases e;cases vd.ints;exact ⟨rfl,rfl⟩
 | str y=>
  simp only [kF] at e
  split at e
  ·rename_i hl
   cases e
   cases vd.strs
   exact ⟨rfl,by rw [sizeLine_eq];omega,rfl⟩
  ·cases e
 | tup ds=>
  cases e
  obtain ⟨a,vs,rfl,sq,vds⟩:=vd.tups
  exact ⟨rfl,.inr (.inl ⟨vs,.of sq,by rw [kG vds]⟩)⟩
 | ref n=>
  simp only [kF] at e
  cases hn:aj S n with
  | none=>rw [hn] at e;cases e
  | some ds=>
   rw [hn] at e
   cases e
   obtain ⟨p,vs,hp,sq,vds⟩:=R.seq hn
   obtain ⟨p',hp',rfl⟩:=vd.refs
   rw [hp] at hp'
   cases hp'
   exact ⟨rfl,.inl ⟨vs,sq,by rw [kG vds]⟩⟩
noncomputable def AV (x:XE):XT:=fun ρ S=>bnd (x ρ S) fun d S1=>kF d S1
theorem Fx {x:XE} {σ:L2.St} {H:Hp} {Q:Bool->Hp->Prop} (h:tT K (AV x) σ H Q):(tE K x) σ H fun v H'=>∃ k,Ah K v H' k/\Q k H':=by
 obtain ⟨m,ρ,S,b,S',E,R,e,q⟩:=h
 obtain ⟨d,S1,e1,e⟩:=ab e
 refine ⟨m,ρ,S,d,S1,E,R,e1,fun m1 H1 v A1 vd=>?_⟩
 obtain ⟨rfl,t⟩:=Fw A1.rel vd e
 exact ⟨b,t,q m1 H1 A1⟩
noncomputable def xB (x:XE):XT:=fun ρ S=>bnd (x ρ S) fun d S1=>match d with
 | .bl b=>some (b,S1)
 | _=>none
theorem JL {x:XE} {t:TE} {σ:L2.St} {H:Hp} {Q:Bool->Hp->Prop} (h:tT K (xB x) σ H Q):(tE K x) σ H fun v H'=>∃ k,v = .bl k/\Q k H':=by
 obtain ⟨m,ρ,S,b,S',E,R,e,q⟩:=h
 obtain ⟨d,S1,e1,e⟩:=ab e
 refine ⟨m,ρ,S,d,S1,E,R,e1,fun m1 H1 v A1 vd=>?_⟩
 cases d with
 | bl k=>cases e;exact ⟨b,vd.bls,q m1 H1 A1⟩
 | _=>cases e
noncomputable def bx (_:Bool) (ds:List D) (S:Sto):Option (D × Sto):=some (.int ds.length,S)
noncomputable def b7 (_:Bool) (ds:List D) (S:Sto):Option (D × Sto):=some (.tup ds,S)
noncomputable def xG:D->Bool
 | .bl _=>true
 | _=>false
noncomputable def vn:D->Bool
 | .bl b=>b
 | _=>false
noncomputable def mv (tu:Bool) (ds:List D) (S:Sto):Option (D × Sto):=if tu=false/\ds.all xG=true then some (.bl (ds.all vn),S) else none
noncomputable def r1 (r:V->Hp->VK->Prop):List V->Hp->VK->Prop
 | [x],H,Q=>r x H Q
 | _,_,_=>False
theorem eK {r:V->Hp->VK->Prop} {xs:List V} {H:Hp} {Q:VK} (h:r1 r xs H Q):∃ x,xs=[x]/\r x H Q:=by
 match xs,h with
 | [x],h=>exact ⟨x,rfl,h⟩
theorem vo:aZ X (.builtin "len") (r1 (rSq X.K bx)):=by
 refine aZ.imp nP fun xs H Q h=>?_
 obtain ⟨_,rfl,m,S,tu,ds,a,vs,d,S',R,rfl,sq,vd,e,q⟩:=eK h
 cases e
 exact ⟨a,vs,rfl,gU sq,q m H _ (Aft.refl R) (by rw [vd.length];exact bm)⟩
theorem vq:aZ X (.type "tuple") (r1 (rSq X.K b7)):=by
 refine aZ.imp mq fun xs H Q h=>?_
 obtain ⟨_,rfl,m,S,tu,ds,a,vs,d,S',R,rfl,sq,vd,e,q⟩:=eK h
 cases e
 cases tu with
 | false=>exact ⟨a,vs,rfl,.inl ⟨sq,jZ R vd q⟩⟩
 | true=>exact ⟨a,vs,rfl,.inr ⟨.of sq,q m H _ (Aft.refl R) (kD sq vd)⟩⟩
theorem xH:∀ {ds:List D} {vs:List V},VDs K m H ds vs->ds.all xG=true->vs=(ds.map vn).map V.bl
 | [],vs,h,_=>by rw [VDs] at h;rw [h];rfl
 | d::ds,vs,h,f=>by
  rw [VDs] at h
  obtain ⟨x,r,rfl,p,q⟩:=h
  rw [List.all_cons,bAE] at f
  cases d with
  | bl b=>rw [p.bls,xH q f.2];rfl
  | _=>simp [xG] at f
theorem Fy (ds:List D):(ds.map vn).all id=ds.all vn:=by rw [List.all_map];rfl
theorem vt (hc:X.calm=true):aZ X (.builtin "all") (r1 (rSq X.K mv)):=by
 refine aZ.imp (uT hc) fun xs H Q h=>?_
 obtain ⟨_,rfl,m,S,tu,ds,a,vs,d,S',R,rfl,sq,vd,e,q⟩:=eK h
 unfold mv at e
 split at e
 ·rename_i hf
  cases e
  obtain ⟨rfl,hf⟩:=hf
  refine ⟨a,ds.map vn,rfl,?_,q m H _ (Aft.refl R) (by rw [Fy];exact bN)⟩
  rw [<-xH vd hf];exact sq
 ·cases e
noncomputable def rTm (K:PySem.W.Frag) (f:Bool->List D->Option (List D)):V->Hp->VK->Prop:=fun v H Q=>∃ m S tu ds a vs es,Rel K m S H/\v = .ref a/\SqB K tu H a vs/\VDs K m H ds vs/\f tu ds=some es ∧
 ∀ m' H' p ws,Aft K m H S m' H'->H' p=some (.lst ws)->p ∉ m'->(∀ b,b ∈ m->b ≠ p)->H p=none->VDs K m' H' es ws->Q (.ref p) H'
theorem kH:aZ X (.type "list") (r1 (rTm X.K fun _ ds=>some ds)):=by
 refine aZ.imp nQ fun xs H Q h=>?_
 obtain ⟨_,rfl,m,S,tu,ds,a,vs,es,R,rfl,sq,vd,e,q⟩:=eK h
 cases e
 exact ⟨a,vs,rfl,gU sq,j6 R vd q⟩
noncomputable def xI:D->D->Sto->Option (D × Sto)
 | .int i,.int j,S=>some (.int (if j > i then j else i),S)
 | _,_,_=>none
noncomputable def xJ:D->D->Sto->Option (D × Sto)
 | .int i,.int j,S=>some (.int (if j < i then j else i),S)
 | _,_,_=>none
noncomputable def two (f:D->D->Sto->Option (D × Sto)):List D->Sto->Option (D × Sto)
 | [a,b],S=>f a b S
 | _,_=>none
theorem rN {a b:D} {vs:List V} (h:VDs K m H [a,b] vs):∃ v w,vs=[v,w]/\VD K m H a v/\VD K m H b w:=by
 rw [VDs] at h
 obtain ⟨v,r,rfl,p,q⟩:=h
 rw [VDs] at q
 obtain ⟨w,r',rfl,p',q'⟩:=q
 rw [VDs] at q'
 subst q'
 exact ⟨v,w,rfl,p,p'⟩
theorem AW {a:D} {vs:List V} (h:VDs K m H [a] vs):∃ v,vs=[v]/\VD K m H a v:=by
 rw [VDs] at h
 obtain ⟨v,r,rfl,p,q⟩:=h
 rw [VDs] at q
 subst q
 exact ⟨v,rfl,p⟩
theorem pW {f:D->D->Sto->Option (D × Sto)} {as:List D} {r:D × Sto} (h:two f as S=some r):∃ a b,as=[a,b]/\f a b S=some r:=by
 match as,h with
 | [a,b],h=>exact ⟨a,b,rfl,h⟩
theorem rO (hc:X.calm=true):aZ X (.builtin "max") (rSA X.K (two xI)):=by
 refine aZ.imp (uH hc) fun xs H Q h=>?_
 obtain ⟨m,S,as,d,S',R,vd,e,q⟩:=h
 obtain ⟨a,b,rfl,e2⟩:=pW e
 obtain ⟨v,w,rfl,p,p'⟩:=rN vd
 cases a <;> cases b <;> simp [xI] at e2
 obtain ⟨rfl,rfl⟩:=e2
 exact ⟨_,_,by rw [p.ints,p'.ints],q m H _ (Aft.refl R) bm⟩
theorem rP (hc:X.calm=true):aZ X (.builtin "min") (rSA X.K (two xJ)):=by
 refine aZ.imp (uI hc) fun xs H Q h=>?_
 obtain ⟨m,S,as,d,S',R,vd,e,q⟩:=h
 obtain ⟨a,b,rfl,e2⟩:=pW e
 obtain ⟨v,w,rfl,p,p'⟩:=rN vd
 cases a <;> cases b <;> simp [xJ] at e2
 obtain ⟨rfl,rfl⟩:=e2
 exact ⟨_,_,by rw [p.ints,p'.ints],q m H _ (Aft.refl R) bm⟩
inductive Ty where | int | bool | tuple | list | str
noncomputable def Ty.nm:Ty->String
 | .int => "int" | .bool => "bool" | .tuple => "tuple" | .list => "list" | .str => "str"
noncomputable def tyN (d:D) (S:Sto):Option String:=match d with
 | .non=>some "NoneType" | .bl _=>some "bool" | .int _=>some "int" | .str _=>some "str" | .tup _=>some "tuple"
 | .ref n=>(match S[n]? with
  | some (.lst _)=>some "list"
  | some (.frz _)=>some "list"
  | some (.dic _ _)=>some "dict"
  | none=>none)
noncomputable def fG (t:Ty) (n:String):Bool:=n == t.nm || (match t with | .int=>n == "bool" | _=>false)
noncomputable def kI (t:Ty) (d:D) (S:Sto):Option (D × Sto):=(tyN d S).map fun n=>(.bl (fG t n),S)
theorem AX (K:PySem.W.Frag) (t:Ty):(PySem.W.kitOne K (.type "NoneType") (.type t.nm)=some (fG t "NoneType"))/\(PySem.W.kitOne K (.type "bool") (.type t.nm)=some (fG t "bool"))/\(PySem.W.kitOne K (.type "int") (.type t.nm)=some (fG t "int")) ∧
  (PySem.W.kitOne K (.type "str") (.type t.nm)=some (fG t "str"))/\(PySem.W.kitOne K (.type "tuple") (.type t.nm)=some (fG t "tuple"))/\(PySem.W.kitOne K (.type "list") (.type t.nm)=some (fG t "list"))/\(PySem.W.kitOne K (.type "dict") (.type t.nm)=some (fG t "dict")):=by
 cases t <;> exact ⟨by kernel_rfl,by kernel_rfl,by kernel_rfl,by kernel_rfl,by kernel_rfl,by kernel_rfl,by kernel_rfl⟩
theorem JM {d:D} {v:V} {n:String} (R:Rel K m S H) (vd:VD K m H d v) (e:tyN d S=some n):TyOf K H v (.type n):=by
 cases d with
 | non=>cases e;cases vd.nons;exact .non
 | bl _=>cases e;cases vd.bls;exact .bl _
 | int _=>cases e;cases vd.ints;exact .int _
 | str _=>cases e;cases vd.strs;exact .str _
 | tup ds=>cases e;obtain ⟨a,vs,rfl,sq,_⟩:=vd.tups;exact .tup sq
 | ref k=>
  simp only [tyN] at e
  obtain ⟨a,ha,rfl⟩:=vd.refs
  cases hk:S[k]? with
  | none=>rw [hk] at e;cases e
  | some o=>
   rw [hk] at e
   obtain ⟨a',ha',r⟩:=R.ob k o hk
   rw [ha] at ha'
   cases ha'
   cases o with
   | lst ds=>cases e;obtain ⟨vs,h,_⟩:=r;exact .lst h
   | frz ds=>cases e;obtain ⟨o,vs,h,_⟩:=r;exact .frz h
   | dic ks ds=>cases e;obtain ⟨vs,h,_⟩:=r;exact .dK h
theorem xK {d:D} {n:String} (e:tyN d S=some n):n = "NoneType"\/n = "bool"\/n = "int"\/n = "str"\/n = "tuple"\/n = "list"\/n = "dict" := by
 cases d with
 | ref k=>
  simp only [tyN] at e
  cases hk:S[k]? with
  | none=>rw [hk] at e;cases e
  | some o=>rw [hk] at e;cases o <;> cases e <;> simp
 | _=>cases e <;> simp
theorem Fz {n:String} (K:PySem.W.Frag) (t:Ty) (h:n = "NoneType"\/n = "bool"\/n = "int"\/n = "str"\/n = "tuple"\/n = "list"\/n = "dict"):PySem.W.kitOne K (.type n) (.type t.nm)=some (fG t n):=by
 obtain ⟨a,b,c,d,e,f,g⟩:=AX K t
 rcases h with rfl | rfl | rfl | rfl | rfl | rfl | rfl <;> assumption
noncomputable def JN (K:PySem.W.Frag) (t:Ty) (te:TE):TE:=tCB (DM K) (cB te (cB (tC (.ty t.nm)) jP))
theorem AY {t:Ty} {x:XE} {σ:L2.St} {H:Hp} {Q:VK} (h:tE K (xUn (kI t) x) σ H Q):JN K t (tE K x) σ H Q:=by
 obtain ⟨m,ρ,S,d,S',E,R,e,q⟩:=h
 obtain ⟨a,S1,e1,e⟩:=ab e
 refine ⟨m,ρ,S,a,S1,E,R,e1,fun m1 H1 v A1 va=>?_⟩
 unfold kI at e
 cases hn:tyN a S1 with
 | none=>rw [hn] at e;cases e
 | some n=>
  rw [hn] at e
  cases e
  exact ⟨v,t.nm,_,_,rfl,JM A1.rel va hn,Fz K t (xK hn),q m1 H1 _ A1 bN⟩
end
end Ev
namespace Ev
open PySem PySem.Spec PyProof.Rows L2
open PySem.W (KasT kas_sort kas_asc kas_desc kas_tail3 kas_descPart kas_count kas_place kas_bin kas_rev kas_ask KatTups)
noncomputable def eM {α:Type} (lt:Nat->Nat->Bool):KasT α->α
 | .ret a=>a
 | .ask i j k=>eM lt (k (lt i j))
noncomputable def KT {α:Type} (n:Nat) (P:α->Prop):KasT α->Prop
 | .ret a=>P a
 | .ask i j k=>i < n/\j < n/\∀ b,KT n P (k b)
theorem KT.bind {α β:Type} {n:Nat} {P:α->Prop} {R:β->Prop} {f:α->KasT β} (hf:∀ a,P a->KT n R (f a)):∀ {t:KasT α},KT n P t->KT n R (t.bind f)
 | .ret a,h=>hf a h
 | .ask i j k,h=>⟨h.1,h.2.1,fun b=>KT.bind hf (h.2.2 b)⟩
theorem KT.run {α:Type} {n:Nat} {P:α->Prop} {lt:Nat->Nat->Bool}:∀ {t:KasT α},KT n P t->P (eM lt t)
 | .ret a,h=>h
 | .ask i j k,h=>KT.run (t:=k (lt i j)) (h.2.2 (lt i j))
theorem pX {α:Type} {n:Nat} {P:α->Prop} {lt:Nat->Nat->Bool} {cmp:Nat->Nat->(Bool->Shared->Prop)->Shared->Prop} {s:Shared} (hc:∀ i j,i < n->j < n->∀ C:Bool->Shared->Prop,C (lt i j) s->cmp i j C s) {Q:α->Shared->Prop} :
  ∀ {t:KasT α},KT n P t->Q (eM lt t) s->t.kasWp cmp Q s
 | .ret a,_,q=>q
 | .ask i j k,h,q=>hc i j h.1 h.2.1 _ (pX hc (h.2.2 (lt i j)) q)
noncomputable def Pm (n:Nat) (p:Array Nat):Prop:=p.Perm (List.toArray (List.range n))
theorem Pm.at {n i:Nat} {p:Array Nat} (h:Pm n p) (hn:0 < n):p.getD i 0 < n:=by
 by_cases hi:i < p.size
 ·have e:p.getD i 0=p[i]:=by simp [Array.getD,hi]
  rw [e]
  have hm:p[i] ∈ p:=Array.getElem_mem hi
  have:=h.mem_iff.mp hm
  simpa using this
 ·have e:p.getD i 0=0:=by simp [Array.getD,hi]
  omega
theorem Pm.rev {n i j:Nat} {p:Array Nat} (h:Pm n p):Pm n (kas_rev p i j):=(mirror_perm p i j _).trans h
theorem rQ {n:Nat} {p:Array Nat} (h:Pm n p) (hn:0 < n):∀ f m,KT n (fun _=>True) (kas_asc p f m)
 | 0,_=>trivial
 | f+1,m=>⟨h.at hn,h.at hn,fun b=>by
  cases b with
  | true=>exact trivial
  | false=>exact rQ h hn f (m+1)⟩
theorem j8 {n:Nat} (hn:0 < n):∀ f (p:Array Nat) m q,Pm n p->KT n (fun r:Array Nat × Nat × Nat=>Pm n r.1) (kas_desc f p m q)
 | 0,p,m,q,h=>h
 | f+1,p,m,q,h=>⟨h.at hn,h.at hn,fun b=>by
  cases b with
  | true=>
   show KT n _ (if q > 0 then kas_desc f (kas_rev p (m - (q+1)) m) (m+1) 0 else kas_desc f p (m+1) 0)
   split
   ·exact j8 hn f _ _ _ h.rev
   ·exact j8 hn f _ _ _ h
  | false=>exact ⟨h.at hn,h.at hn,fun d=>by
   cases d with
   | true=>exact h
   | false=>exact j8 hn f _ _ _ h⟩⟩
theorem pY {n:Nat} {p:Array Nat} (hn:0 < n) (h:Pm n p) (m r:Nat):KT n (fun r:Nat × Array Nat=>Pm n r.2) (kas_tail3 m r p):=KT.bind (P:=fun _=>True) (f:=fun m=>KasT.ret (m,kas_rev p 0 _)) (fun _ _=>(show KT n (fun r:Nat × Array Nat=>Pm n r.2) (KasT.ret (_,kas_rev p 0 _)) from h.rev)) (rQ h.rev hn _ _)
theorem jz {n:Nat} {p:Array Nat} (hn:0 < n) (h:Pm n p) (m r:Nat):KT n (fun r:Nat × Array Nat=>Pm n r.2) (kas_descPart m r p):=KT.bind (fun a ha=>by
 show KT n _ (if a.2.2 > 0 then _ else _)
 split
 ·exact pY hn (Pm.rev ha) _ _
 ·exact pY hn ha _ _) (j8 hn _ _ _ _ h)
theorem xL {n:Nat} {p:Array Nat} (hn:0 < n) (h:Pm n p) (r:Nat):KT n (fun r:Nat × Array Nat=>Pm n r.2) (kas_count r p):=KT.bind (fun a _=>by
 show KT n _ (if (a == r)=true then _ else if a > 1 then _ else _)
 split
 ·exact h
 ·split
  ·exact ⟨h.at hn,h.at hn,fun b=>by
    cases b with
    | true=>exact h
    | false=>exact jz hn h.rev _ _⟩
  ·exact jz hn h _ _) (rQ h hn _ _)
theorem kJ {n:Nat} {p:Array Nat} (hn:0 < n) (h:Pm n p) (m:Nat):∀ f l r,KT n (fun _=>True) (kas_place p m f l r)
 | 0,_,_=>trivial
 | f+1,l,r=>by
  show KT n _ (if l ≥ r then _ else _)
  split
  ·exact trivial
  ·exact ⟨h.at hn,h.at hn,fun b=>by
    cases b with
    | true=>exact kJ hn h m f _ _
    | false=>exact kJ hn h m f _ _⟩
theorem xM {n:Nat} (hn:0 < n):∀ f (p:Array Nat) m,Pm n p->KT n (Pm n) (kas_bin f p m)
 | 0,p,_,h=>h
 | f+1,p,m,h=>KT.bind (fun l _=>xM hn f _ _ ((bubble_perm p m _).trans h)) (kJ hn h m _ _ _)
theorem oi {n:Nat} (hn:0 < n):KT n (Pm n) (kas_sort n):=KT.bind (fun r hr=>by
 show KT n _ (if r.1 < n then _ else _)
 split
 ·exact xM hn _ _ _ hr
 ·exact hr) (xL hn (Array.Perm.refl _) n)
section
variable {prog:Program} {w:World} {A:Around} {E:Value->Shared->Prop} {s:Shared}
theorem oj {a:Addr} {vs:List Value} {n:Nat} {P:PySem.Fin->Shared->Prop} (ho:s.heap.get? a=some (seqObj "list" vs.toArray n)) (h64:vs.length < 64) (κ:SortKind) (lt:Nat->Nat->Bool)
  (hk:2<=vs.length->∀ (Q:SortKind->Shared->Prop),Q κ { s with heap:=((s.heap.update a (Obj.mapSeq fun _=>#[])).push (seqObj "tuple" vs.toArray 0)).push (seqObj "list" #[] 0) }->wpAny (model prog w) A (keyKind' vs.toArray) Q E { s with heap:=((s.heap.update a (Obj.mapSeq fun _=>#[])).push (seqObj "tuple" vs.toArray 0)).push (seqObj "list" #[] 0) })
  (hlt:∀ i j,i < vs.length->j < vs.length->∀ C:Bool->Shared->Prop,C (lt i j) { s with heap:=((s.heap.update a (Obj.mapSeq fun _=>#[])).push (seqObj "tuple" vs.toArray 0)).push (seqObj "list" #[] 0) } ->
   kas_ask prog w A κ vs i j C { s with heap:=((s.heap.update a (Obj.mapSeq fun _=>#[])).push (seqObj "tuple" vs.toArray 0)).push (seqObj "list" #[] 0) })
  (h:P (.done (.ret .none)) { s with heap:=sortedHeap s.heap a vs (if vs.length < 2 then vs.toArray else List.toArray ((eM lt (kas_sort vs.length)).toList.map fun i=>vs.getD i Value.none)) }) :
  wpAny (model prog w) A (Builtin.«list.sort» ⟨[.ref a],[]⟩) P E s:=by
 rw [list_sort_plain]
 have ha:a < s.heap.objs.size:=Heap.lt_size ho
 refine wpAny_bind (listItems_at ho rfl ?_)
 refine wpAny_bind (listUpdate_at ho rfl ?_)
 obtain ⟨e1,ho1⟩:∃ e1,(s.heap.update a (Obj.mapSeq fun _=>#[])).get? a=some (seqObj "list" #[] e1):=⟨_,get?_update_seq ho (fun _=>#[])⟩
 refine wpAny_bind (seqEpoch_at ho1 rfl ?_)
 refine wpAny_bind (wpAny_newTuple ?_)
 refine wpAny_bind (wpAny_newList ?_)
 refine wpAny_holding ?_
 have ho6:(((s.heap.update a (Obj.mapSeq fun _=>#[])).push (seqObj "tuple" vs.toArray 0)).push (seqObj "list" #[] 0)).get? a=some (seqObj "list" #[] e1):=by
  rw [Heap.get?_push_ne _ _ _ (by rw [size_push',Heap.size_update];exact Nat.ne_of_lt (Nat.lt_succ_of_lt ha)),Heap.get?_push_ne _ _ _ (by rw [Heap.size_update];exact Nat.ne_of_lt ha)]
  exact ho1
 show wpAny (model prog w) A _ P E { s with heap:=((s.heap.update a (Obj.mapSeq fun _=>#[])).push (seqObj "tuple" vs.toArray 0)).push (seqObj "list" #[] 0) }
 dsimp only
 have hsz:vs.toArray.size=vs.length:=by simp
 by_cases h2:vs.toArray.size < 2
 ·rw [if_pos h2,if_pos h2]
  refine wpAny_bind (wpAny_pure ?_)
  rw [StateT.run_pure]
  refine wpAny_bind (wpAny_pure ?_)
  dsimp only
  refine wpAny_bind (seqEpoch_at ho6 rfl ?_)
  refine wpAny_bind (listUpdate_at ho6 rfl ?_ (hsz2:=by rw [Array.size_map];show (pairsOf vs).size<=_;rw [pairsOf_size,sizeLine_eq];omega))
  simp only [bne_self_eq_false,Bool.false_eq_true,if_false]
  rw [if_pos (by rw [<-hsz];exact h2)] at h
  have e:Array.map (fun x:Keyed=>x.2) (vs.toArray.zip vs.toArray)=vs.toArray:=by
   apply Array.toList_inj.mp
   rw [Array.toList_map,Array.toList_zip,List.map_snd_zip (by simp)]
  refine wpAny_pure ?_
  show P _ { s with heap:=sortedHeap s.heap a vs (Array.map (fun x:Keyed=>x.2) (vs.toArray.zip vs.toArray)) }
  rw [e]
  exact h
 ·have h2':2<=vs.length:=by omega
  rw [if_neg h2,if_neg h2]
  rw [if_neg (by omega)] at h
  refine wpAny_bind (hk h2' _ ?_)
  refine wpAny_bind (wpAny_mono (PySem.W.kat_run (κ:=κ) (ks:=vs) (Q:=fun st' s'=>s'={ s with heap:=((s.heap.update a (Obj.mapSeq fun _=>#[])).push (seqObj "tuple" vs.toArray 0)).push (seqObj "list" #[] 0) }/\arrOf st'=(eM lt (kas_sort vs.length)).map (PySem.W.kas_item (vs.toArray.zip vs.toArray))/\(eM lt (kas_sort vs.length)).size=vs.length/\failedOf st'=none)
   (G:=fun p s'=>s'={ s with heap:=((s.heap.update a (Obj.mapSeq fun _=>#[])).push (seqObj "tuple" vs.toArray 0)).push (seqObj "list" #[] 0) }/\p=eM lt (kas_sort vs.length)) rfl h2' h64 (fun p st' s' a1 a2 a3 a4=>⟨a4.1,a4.2 ▸ a2,a4.2 ▸ a1,a3⟩) (pX hlt (oi (by omega)) ⟨rfl,rfl⟩)) ?_ fun _ _ e=>e)
  rintro ⟨⟨⟩,st'⟩ s' ⟨rfl,har,hsz',hf⟩
  dsimp only
  have hout:=PySem.W.kat_snds rfl har
  refine wpAny_bind (seqEpoch_at ho6 rfl ?_)
  rw [hout]
  refine wpAny_bind (listUpdate_at ho6 rfl ?_ (hsz2:=by rw [List.size_toArray,List.length_map,Array.length_toList,hsz',sizeLine_eq];omega))
  rw [hf]
  simp only [bne_self_eq_false,Bool.false_eq_true,if_false]
  exact wpAny_pure h
end
section
variable {prog:Program} {w:World} {A:Around} {E:Value->Shared->Prop} {s:Shared}
theorem vA {l:Addr} {vs:List Value} {Q:Value->Shared->Prop} (hl:s.heap.IsList l vs.toArray) (h64:vs.length < 64) (κ:SortKind) (lt:Nat->Nat->Bool)
  (hk:2<=vs.length->∀ (A:Around) (s':Shared),(∀ b o,s.heap.get? b=some o->s'.heap.get? b=some o)->∀ (E:Value->Shared->Prop) (Q:SortKind->Shared->Prop),Q κ s'->wpAny (model prog w) A (keyKind' vs.toArray) Q E s')
  (hlt:∀ (A:Around) (s':Shared),(∀ b o,s.heap.get? b=some o->s'.heap.get? b=some o)->∀ i j,i < vs.length->j < vs.length->∀ C:Bool->Shared->Prop,C (lt i j) s'->kas_ask prog w A κ vs i j C s')
  (h:Q (.ref (s.heap.objs.size+1)) { s with heap:=sortedAll s.heap vs (if vs.length < 2 then vs.toArray else List.toArray ((eM lt (kas_sort vs.length)).toList.map fun i=>vs.getD i Value.none)) }) :
  wpAny (model prog w) A (call (.builtin "sorted") [.ref l]) Q E s:=by
 refine Calls.call_function_entry kind_sorted plain_sorted entry_sorted (args_sorted1 _) ?_
 unfold Builtin.«sorted»
 refine wpAny_bind (m:=checkCount "sorted" 1 1 _) (wpAny_pure ?_)
 refine wpAny_bind (collect_list hl ?_)
 refine wpAny_bind (wpAny_newList ?_)
 have hsz:((s.heap.push (seqObj "list" #[] 0)).update s.heap.objs.size (Obj.mapSeq (·++vs.toArray))).objs.size=s.heap.objs.size+1:=by
  rw [Heap.size_update,size_push']
 have hoL:(((s.heap.push (seqObj "list" #[] 0)).update s.heap.objs.size (Obj.mapSeq (·++vs.toArray))).push (seqObj "list" vs.toArray 0)).get? (s.heap.objs.size+1)=some (seqObj "list" vs.toArray 0):=by
  rw [<-hsz];exact Heap.get?_push_size _ rfl
 have keep:∀ b o,s.heap.get? b=some o->(((((s.heap.push (seqObj "list" #[] 0)).update s.heap.objs.size (Obj.mapSeq (·++vs.toArray))).push (seqObj "list" vs.toArray 0)).update (s.heap.objs.size+1) (Obj.mapSeq fun _=>#[])).push (seqObj "tuple" vs.toArray 0)).get? b=some o:=fun b o q=>by
  have hlt:b < s.heap.objs.size:=Heap.lt_size q
  refine Heap.get?_push_of_some _ ?_
  rw [Heap.get?_update_ne _ _ _ _ (Nat.ne_of_lt (Nat.lt_succ_of_lt hlt))]
  refine Heap.get?_push_of_some _ ?_
  rw [Heap.get?_update_ne _ _ _ _ (Nat.ne_of_lt hlt)]
  exact Heap.get?_push_of_some _ q
 show wpAny _ _ _ _ _ { s with heap:=((s.heap.push (seqObj "list" #[] 0)).update s.heap.objs.size (Obj.mapSeq (·++vs.toArray))).push (seqObj "list" vs.toArray 0) }
 rw [hsz]
 refine wpAny_bind (wpAny_holding (wpAny_call_entry slot_list_sort ⟨_,hoL,rfl⟩ entry_list_sort (oj hoL h64 κ lt (fun h2 Q q=>hk h2 _ _ (fun b o z=>Heap.get?_push_of_some _ (keep b o z)) _ Q q) (fun i j hi hj C c=>hlt _ _ (fun b o z=>Heap.get?_push_of_some _ (keep b o z)) i j hi hj C c) ⟨_,rfl,?_⟩) (args_list_sort _)))
 exact wpAny_pure ⟨_,rfl,h⟩
noncomputable def rR (x y:Int × Int):Bool:=if x.1 == y.1 then (if x.2 == y.2 then false else decide (x.2 < y.2)) else decide (x.1 < y.1)
theorem xN {x y:Addr} {ox oy:Obj} {a b c d:Int} {t1 t2 t3 t4:Tok} {n k:Nat} {C:Bool->Shared->Prop} (hx:s.heap.get? x=some ox) (dx:ox.data = .seq #[.int a t1,.int b t2] n) (hy:s.heap.get? y=some oy) (dy:oy.data = .seq #[.int c t3,.int d t4] k)
  (h:C (rR (a,b) (c,d)) s):wpAny (model prog w) A (keyLt' (tuples' true) (.ref x) (.ref y)) C E s:=by
 refine PySem.W.kat_lt hx dx hy dy ?_
 show PySem.W.KatLex prog w A true _ C [(.int a t1,.int c t3),(.int b t2,.int d t4)] 0 s
 unfold rR at h
 refine wpAny_eqBool_int ?_
 cases h1:a == c with
 | true=>
  rw [if_pos rfl]
  simp only [h1,if_true] at h
  refine wpAny_eqBool_int ?_
  cases h2:b == d with
  | true=>rw [if_pos rfl];simp only [h2,if_true] at h;exact h
  | false=>
   rw [if_neg Bool.false_ne_true]
   simp only [h2,Bool.false_eq_true,if_false] at h
   exact PySem.W.kat_one _ _ (lt_int h)
 | false=>
  rw [if_neg Bool.false_ne_true]
  simp only [h1,Bool.false_eq_true,if_false] at h
  exact oneLt_int h
end
end Ev
namespace Ev
open PySem PySem.Spec PyProof.Rows L2
open PySem.W (kas_sort KatTups)
section
variable {X:Cx} {K:PySem.W.Frag} {m:List Addr} {H:Hp} {S:Sto}
inductive PairsV (H:Hp):List V->List (Int × Int)->Prop where
 | nil:PairsV H [] []
 | cons {r:Addr} {x y:Int} {vs:List V} {ps:List (Int × Int)}:H r=some (.tup [.int x,.int y])->PairsV H vs ps->PairsV H (.ref r::vs) ((x,y)::ps)
noncomputable def mw (ps:List (Int × Int)) (i j:Nat):Bool:=rR (ps.getD i (0,0)) (ps.getD j (0,0))
noncomputable def cJ {α:Type} (ps:List (Int × Int)) (d:α) (vs:List α):List α:=if vs.length < 2 then vs else (eM (mw ps) (kas_sort vs.length)).toList.map fun i=>vs.getD i d
theorem PairsV.len {vs:List V} {ps:List (Int × Int)} (h:PairsV H vs ps):vs.length=ps.length:=by
 induction h with
 | nil=>rfl
 | cons _ _ ih=>simp [ih]
noncomputable def DP (h:Heap) (v:Value) (q:Int × Int):Prop:=∃ r o t1 t2 n,v = .ref r/\h.get? r=some o/\o.cls = .type "tuple"/\o.data = .seq #[.int q.1 t1,.int q.2 t2] n
theorem PairsV.heap {pins:List (Addr × Obj)} {s:Shared} {σ:L2.St} (I:Inv X pins σ H s) {vs:List V} {ps:List (Int × Int)} (h:PairsV H vs ps):∀ {its:List Value},aM vs its->∀ (i:Nat),i < its.length->DP s.heap (its.getD i Value.none) (ps.getD i (0,0)):=by
 induction h with
 | nil=>intro its r i hi;cases r;simp at hi
 | @cons r x y vs ps hr _ ih=>
  intro its rv i hi
  cases rv with
  | @cons _ u _ us r1 r2=>
   cases i with
   | zero=>
    cases r1
    obtain ⟨it2,rr,⟨o,e,hc,n,hd⟩,_⟩:=I.tuple (SqT.of (K:=X.K) hr)
    obtain ⟨a,b,rfl,⟨t1,rfl⟩,⟨t2,rfl⟩⟩:=sX rr
    exact ⟨r,o,t1,t2,n,rfl,e,hc,hd⟩
   | succ i=>
    have:=ih r2 i (by simpa using hi)
    simpa using this
theorem tI {h:Heap}:∀ {its:List Value} {ps:List (Int × Int)},(∀ i,i < its.length->DP h (its.getD i Value.none) (ps.getD i (0,0)))->∃ fs:List Value,KatTups h its fs/\fs.length=its.length/\∀ v ∈ fs,∃ i t,v = .int i t
 | [],_,_=>⟨[],KatTups.nil,rfl,fun v hv=>by simp at hv⟩
 | v::its,ps,hp=>by
  obtain ⟨r,o,t1,t2,n,ev,e,hc,hd⟩:=hp 0 (by simp)
  obtain ⟨fs,k,hl,hi⟩:=tI (its:=its) (ps:=ps.tail) fun i hi=>by
   have:=hp (i+1) (by simpa using hi)
   cases ps with
   | nil=>simpa using this
   | cons _ _=>simpa using this
  have ev':v = .ref r:=by simpa using ev
  subst ev'
  exact ⟨.int (ps.getD 0 (0,0)).1 t1::fs,KatTups.cons e hc hd rfl k,by simp [hl],fun w hw=>by
   rcases List.mem_cons.mp hw with rfl | hw
   ·exact ⟨_,_,rfl⟩
   ·exact hi w hw⟩
theorem AZ {vs:List V} {its:List Value} (r:aM vs its) {i:Nat} (hi:i < vs.length):aK (vs.getD i .non) (its.getD i Value.none):=by
 obtain ⟨u,e,ru⟩:=r.get (gEG hi)
 rw [List.getD_eq_getElem?_getD,List.getD_eq_getElem?_getD,gEG hi,e]
 exact ru
theorem mO {vs:List V} {its:List Value} (r:aM vs its):∀ (l:List Nat),(∀ i ∈ l,i < vs.length)->aM (l.map fun i=>vs.getD i .non) (l.map fun i=>its.getD i Value.none)
 | [],_=>.nil
 | i::l,h=>.cons (AZ r (h i List.mem_cons_self)) (mO r l fun j hj=>h j (List.mem_cons_of_mem _ hj))
theorem gW {n:Nat} {lt:Nat->Nat->Bool} (hn:0 < n):(∀ i ∈ (eM lt (kas_sort n)).toList,i < n)/\(eM lt (kas_sort n)).toList.length=n:=by
 have h:Pm n (eM lt (kas_sort n)):=(oi hn).run
 refine ⟨fun i hi=>?_,?_⟩
 ·have:=h.mem_iff.mp (Array.mem_toList_iff.mp hi)
  simpa using this
 ·have:=h.size_eq
  rw [Array.length_toList,this];simp
theorem rT {α:Type} {ps:List (Int × Int)} {d:α} {vs:List α}:(cJ ps d vs).length=vs.length:=by
 unfold cJ
 split
 ·rfl
 ·rw [List.length_map,(gW (by omega)).2]
theorem rV:aZ X (.builtin "sorted") (fun xs H Q=>∃ a vs ps,xs=[.ref a]/\SqL X.K H a vs/\PairsV H vs ps/\vs.length < 64/\∀ p,H p=none->Q (.ref p) (upd H p (.lst (cJ ps .non vs)))):=by
 intro pins s σ H xs us Q I r h
 obtain ⟨a,vs,ps,rfl,sq,pv,h64,q⟩:=h
 obtain ⟨u,rfl,ru⟩:=cW r
 cases ru
 obtain ⟨its,rv,pl,hz⟩:=I.list sq
 have hlen:=rv.length
 have ph:=pv.heap I rv
 have hl2:=pv.len
 refine vA pl.isList (by omega) (tuples' true) (mw ps) (fun h2 A s' kp E Q' hq=>?_) (fun A s' kp i j hi hj C hC=>?_) ?_
 ·obtain ⟨fs,kt,hf,hi⟩:=tI (h:=s'.heap) fun i hi=>by
   obtain ⟨r,o,t1,t2,n,e1,e2,e3,e4⟩:=ph i hi
   exact ⟨r,o,t1,t2,n,e1,kp _ _ e2,e3,e4⟩
  refine PySem.W.kat_kind (T:=.type "int") kt (by omega) (fun v hv=>?_) (by decide) hq
  obtain ⟨i,t,rfl⟩:=hi v hv
  exact PySem.W.Looks.of_pure rfl
 ·obtain ⟨r1,o1,t1,t2,n1,a1,a2,a3,a4⟩:=ph i hi
  obtain ⟨r2,o2,t3,t4,n2,b1,b2,b3,b4⟩:=ph j hj
  show wpAny _ A (keyLt' (tuples' true) (its.getD i Value.none) (its.getD j Value.none)) C _ s'
  rw [a1,b1]
  exact xN (kp _ _ a2) a4 (kp _ _ b2) b4 hC
 ·have hv:aM (cJ ps .non vs) (if its.length < 2 then its else (eM (mw ps) (kas_sort its.length)).toList.map fun i=>its.getD i Value.none):=by
   unfold cJ
   rw [hlen]
   split
   ·exact rv
   ·exact mO rv _ fun i hi=>by rw [hlen];exact (gW (by omega)).1 i hi
  have eo:(if its.length < 2 then its.toArray else List.toArray ((eM (mw ps) (kas_sort its.length)).toList.map fun i=>its.getD i Value.none))=(if its.length < 2 then its else (eM (mw ps) (kas_sort its.length)).toList.map fun i=>its.getD i Value.none).toArray:=by split <;> rfl
  rw [eo]
  obtain ⟨e,he⟩:=sortedAll_at s.heap its (if its.length < 2 then its else (eM (mw ps) (kas_sort its.length)).toList.map fun i=>its.getD i Value.none).toArray
  exact ⟨.ref (s.heap.objs.size+1),_,I.laid (t':=s.toks) (a:=s.heap.objs.size+1) (o:=.lst (cJ ps .non vs)) (fun b o z=>sortedAll_old z) (Nat.le_succ _) ⟨by rw [rT];exact hz,_,e,hv,he⟩,rfl,q _ (I.hok.fresh (Nat.le_succ _))⟩
noncomputable def rX (x:Int):List Int->List Int
 | []=>[x]
 | y::l=>if x<=y then x::y::l else y::rX x l
noncomputable def fj:List Int->List Int
 | []=>[]
 | x::l=>rX x (fj l)
theorem ja (x:Int):∀ l,(rX x l).Perm (x::l)
 | []=>List.Perm.refl _
 | y::l=>by
  unfold rX
  split
  ·exact List.Perm.refl _
  ·exact ((ja x l).cons y).trans (List.Perm.swap x y l)
theorem bJ:∀ l,(fj l).Perm l
 | []=>List.Perm.refl _
 | x::l=>(ja x (fj l)).trans ((bJ l).cons x)
theorem jA (x:Int):∀ l:List Int,l.Pairwise (·<=·)->(rX x l).Pairwise (·<=·)
 | [],_=>by unfold rX;simp
 | y::l,h=>by
  unfold rX
  rw [List.pairwise_cons] at h
  split
  ·rename_i c
   refine List.pairwise_cons.mpr ⟨fun z hz=>?_,List.pairwise_cons.mpr h⟩
   rcases List.mem_cons.mp hz with rfl | hz
   ·exact c
   ·have:=h.1 z hz;omega
  ·rename_i c
   refine List.pairwise_cons.mpr ⟨fun z hz=>?_,jA x l h.2⟩
   rcases List.mem_cons.mp ((ja x l).mem_iff.mp hz) with rfl | hz
   ·omega
   ·exact h.1 z hz
theorem bS:∀ l,(fj l).Pairwise (·<=·)
 | []=>List.Pairwise.nil
 | x::l=>jA x _ (bS l)
theorem kK:∀ {a b:List Int},a.Perm b->a.Pairwise (·<=·)->b.Pairwise (·<=·)->a=b
 | [],b,p,_,_=>(List.Perm.nil_eq p)
 | x::a,[],p,_,_=>(List.Perm.nil_eq p.symm).symm
 | x::a,y::b,p,ha,hb=>by
  rw [List.pairwise_cons] at ha hb
  have e:x=y:=by
   have h1:=p.mem_iff.mp (List.mem_cons_self (a:=x) (l:=a))
   have h2:=p.mem_iff.mpr (List.mem_cons_self (a:=y) (l:=b))
   rcases List.mem_cons.mp h1 with rfl | h1
   ·rfl
   ·rcases List.mem_cons.mp h2 with h2 | h2
    ·exact h2.symm
    ·have:=ha.1 y h2
     have:=hb.1 x h1
     omega
  subst e
  rw [kK (List.Perm.cons_inv p) ha.2 hb.2]
theorem bT:∀ {ns:List Int} {us:List Value},aM (ns.map V.int) us->IntsAre us ns
 | [],_,h=>by cases h;exact .nil
 | n::ns,_,h=>by
  cases h with
  | cons r1 r2=>obtain ⟨t,rfl⟩:=r1;exact .cons n t (bT r2)
theorem rY:aZ X (.builtin "sorted") (fun xs H Q=>∃ a ns,xs=[.ref a]/\SqL X.K H a (ns.map V.int)/\ns.length < 64/\∀ p,H p=none->Q (.ref p) (upd H p (.lst ((fj ns).map V.int)))):=by
 intro pins s σ H xs us Q I r h
 obtain ⟨a,ns,rfl,sq,h64,q⟩:=h
 obtain ⟨u,rfl,ru⟩:=cW r
 cases ru
 obtain ⟨its,rv,pl,hz⟩:=I.list sq
 have hlen:=rv.length
 rw [List.length_map] at hlen hz
 refine sorted_ints pl.isList (bT rv) (by omega) fun out ns' h1 h2 h3=>?_
 have e:ns'=fj ns:=kK (h2.trans (bJ ns).symm) h3 (bS ns)
 subst e
 obtain ⟨e,he⟩:=sortedAll_at s.heap its out
 refine ⟨.ref (s.heap.objs.size+1),_,I.laid (t':=s.toks) (a:=s.heap.objs.size+1) (o:=.lst ((fj ns).map V.int)) (fun b o z=>sortedAll_old z) (Nat.le_succ _) ⟨by rw [List.length_map,(bJ ns).length_eq];exact hz,out.toList,e,i6 h1,by simpa using he⟩,rfl,q _ (I.hok.fresh (Nat.le_succ _))⟩
noncomputable def kM:D->Option (Int × Int)
 | .tup [.int a,.int b]=>some (a,b)
 | _=>none
noncomputable def dG:List D->Option (List (Int × Int))
 | []=>some []
 | d::ds=>match kM d,dG ds with
  | some p,some ps=>some (p::ps)
  | _,_=>none
noncomputable def iz:List D->Option (List Int)
 | []=>some []
 | d::ds=>match d,iz ds with
  | .int i,some ms=>some (i::ms)
  | _,_=>none
noncomputable def rZ (_:Bool) (ds:List D):Option (List D):=match dG ds with
 | some ps=>if ds.length < 64 then some (cJ ps .non ds) else none
 | none=>(match iz ds with
  | some ns=>if ns.length < 64 then some ((fj ns).map D.int) else none
  | none=>none)
theorem iA:∀ {ds:List D} {ns:List Int},iz ds=some ns->ds=ns.map D.int
 | [],_,e=>by cases e;rfl
 | d::ds,ns,e=>by
  simp only [iz] at e
  split at e
  ·rename_i i ms h1
   cases e
   rw [iA h1];rfl
  ·cases e
theorem gq:∀ {ns:List Int} {vs:List V},VDs K m H (ns.map D.int) vs->vs=ns.map V.int
 | [],_,h=>by rw [List.map_nil,VDs] at h;exact h
 | n::ns,_,h=>by
  rw [List.map_cons,VDs] at h
  obtain ⟨v,r,rfl,h1,h2⟩:=h
  rw [h1.ints,gq h2];rfl
theorem mP:∀ (ns:List Int),VDs K m H (ns.map D.int) (ns.map V.int)
 | []=>by rw [List.map_nil,List.map_nil,VDs]
 | n::ns=>by rw [List.map_cons,List.map_cons,VDs];exact ⟨_,_,rfl,bm,mP ns⟩
theorem pZ:∀ {ds:List D} {vs:List V} {ps:List (Int × Int)},dG ds=some ps->VDs K m H ds vs->PairsV H vs ps
 | [],vs,ps,e,h=>by rw [VDs] at h;subst h;cases e;exact .nil
 | d::ds,vs,ps,e,h=>by
  rw [VDs] at h
  obtain ⟨v,r,rfl,h1,h2⟩:=h
  simp only [dG] at e
  cases hd:kM d with
  | none=>rw [hd] at e;cases e
  | some p=>
   cases hr:dG ds with
   | none=>rw [hd,hr] at e;cases e
   | some qs=>
    rw [hd,hr] at e
    cases e
    unfold kM at hd
    split at hd
    ·cases hd
     obtain ⟨a,xs,rfl,hH,vx⟩:=h1.tups
     obtain ⟨x,y,rfl,v1,v2⟩:=rN vx
     cases v1.ints
     cases v2.ints
     exact .cons hH (pZ hr h2)
    ·cases hd
theorem tJ {ds:List D} {vs:List V} (h:VDs K m H ds vs):∀ (l:List Nat),(∀ i ∈ l,i < ds.length)->VDs K m H (l.map fun i=>ds.getD i .non) (l.map fun i=>vs.getD i .non)
 | [],_=>by rw [List.map_nil,List.map_nil,VDs]
 | i::l,hl=>by
  rw [List.map_cons,List.map_cons,VDs]
  obtain ⟨v,e,vv⟩:=h.get (gEG (hl i List.mem_cons_self))
  refine ⟨_,_,rfl,?_,tJ h l fun j hj=>hl j (List.mem_cons_of_mem _ hj)⟩
  rw [List.getD_eq_getElem?_getD,List.getD_eq_getElem?_getD,gEG (hl i List.mem_cons_self),e]
  exact vv
theorem mQ:aZ X (.builtin "sorted") (r1 (rTm X.K fun tu ds=>if tu=false then rZ tu ds else none)):=by
 refine aZ.imp (aZ.or rV rY) fun xs H Q h=>?_
 obtain ⟨_,rfl,m,S,tu,ds,a,vs,es,R,rfl,sq,vd,e,q⟩:=eK h
 cases tu with
 | true=>cases e
 | false=>
  have e:rZ false ds=some es:=by simpa using e
  unfold rZ at e
  cases hp:dG ds with
  | none=>
   rw [hp] at e
   dsimp only at e
   cases hi:iz ds with
   | none=>rw [hi] at e;cases e
   | some ns=>
    rw [hi] at e
    dsimp only at e
    split at e
    ·rename_i hl
     cases e
     have ed:=iA hi
     subst ed
     have ev:=gq vd
     subst ev
     exact .inr ⟨a,ns,rfl,sq,hl,j6 R (mP _) q⟩
    ·cases e
  | some ps=>
   rw [hp] at e
   dsimp only at e
   split at e
   ·rename_i hl
    cases e
    have hlen:=vd.length
    refine .inl ⟨a,vs,ps,rfl,sq,pZ hp vd,by omega,j6 R ?_ q⟩
    unfold cJ
    rw [<-hlen]
    split
    ·exact vd
    ·exact tJ vd _ fun i hi=>(gW (by omega)).1 i hi
   ·cases e
end
end Ev
namespace Ev
open PySem PySem.Spec PyProof.Rows L2
noncomputable def dU:List Int->Int
 | []=>0
 | n::ns=>ns.foldl (fun a b=>if a < b then b else a) n
theorem iB:∀ (ns:List Int) (n:Int),(ns.foldl (fun a b=>if a < b then b else a) n) ∈ n::ns/\∀ x ∈ n::ns,x<=ns.foldl (fun a b=>if a < b then b else a) n
 | [],n=>⟨List.mem_cons_self,fun x hx=>by simp at hx;subst hx;exact Int.le_refl _⟩
 | m::ns,n=>by
  obtain ⟨h1,h2⟩:=iB ns (if n < m then m else n)
  rw [List.foldl_cons]
  refine ⟨?_,fun x hx=>?_⟩
  ·rcases List.mem_cons.mp h1 with h | h
   ·rw [h];split <;> simp
   ·exact List.mem_cons_of_mem _ (List.mem_cons_of_mem _ h)
  ·have h0:=h2 _ List.mem_cons_self
   rcases List.mem_cons.mp hx with rfl | hx
   ·split at h0 <;> split <;> omega
   ·rcases List.mem_cons.mp hx with rfl | hx
    ·split at h0 <;> split <;> omega
    ·exact h2 x (List.mem_cons_of_mem _ hx)
theorem r9 {ns:List Int} {M:Int} (h1:M ∈ ns) (h2:∀ a,a ∈ ns->a<=M):M=dU ns:=by
 cases ns with
 | nil=>simp at h1
 | cons n ns=>
  obtain ⟨a,b⟩:=iB ns n
  have:=h2 _ a
  have:=b _ h1
  show M=ns.foldl _ n
  omega
section
variable {X:Cx} {K:PySem.W.Frag} {m:List Addr} {H:Hp} {S:Sto}
theorem vB (hc:X.calm=true):aZ X (.builtin "max") (fun xs H Q=>∃ a ns,xs=[.ref a]/\SqL X.K H a (ns.map V.int)/\ns ≠ []/\Q (.int (dU ns)) H):=by
 intro pins s σ H xs us Q I r h
 obtain ⟨a,ns,rfl,sq,hne,q⟩:=h
 obtain ⟨u,rfl,ru⟩:=cW r
 cases ru
 obtain ⟨its,rv,pl,hz⟩:=I.list sq
 have hi:=bT rv
 have hl:=pl.isList
 obtain ⟨ys,e⟩:=hi.allInts.items
 have hns:ns=ys.toList.map (·.1):=by
  have h1:=hi.numsOf
  rw [<-nums_intItems,<-e]
  exact h1.symm
 have hsz:0 < ys.size:=by
  have h3:0 < ns.length:=List.length_pos_iff.mpr hne
  rw [hns,List.length_map,Array.length_toList] at h3;exact h3
 rw [e] at hl
 refine max_intList (I.ok.hd hc) hl hsz fun v h' tk hv hk=>?_
 obtain ⟨t,rfl⟩:=intItems_at hv
 obtain ⟨b1,b2⟩:=argBest_gt (numAt ys) (ys.size - 1)
 have key:∀ M:Int,M ∈ ns->(∀ a,a ∈ ns->a<=M)->∃ x H',Inv X pins σ H' { s with heap:=h',toks:=tk }/\aK x (.int M t)/\Q x H':=fun M h1 h2=>⟨.int (dU ns),H,I.kept hk,⟨t,by rw [r9 h1 h2]⟩,q⟩
 refine key _ ?_ fun a ha=>?_
 ·rw [hns,numAt_eq];exact getD_mem (by rw [List.length_map,Array.length_toList];omega)
 ·rw [hns] at ha
  obtain ⟨j,hj,rfl⟩:=mem_getD ha
  rw [List.length_map,Array.length_toList] at hj
  rw [<-numAt_eq];exact b2 j (by omega)
theorem om {prog:Program} {w:World} {A:Around} {E:Value->Shared->Prop} {s:Shared} {l:Addr} {xs:Array (Int × Tok)} {Q:Value->Shared->Prop} (hh:A.handled=none) (hl:s.heap.IsTuple l (intItems xs)) (hne:0 < xs.size)
  (h:∀ v h' tk,(intItems xs)[argBest (fun i j=>decide (numAt xs i > numAt xs j)) (xs.size - 1)]?=some v->(∀ b o,s.heap.get? b=some o->h'.get? b=some o)->Q v { s with heap:=h',toks:=tk }) :
  wpAny (model prog w) A (call (.builtin "max") [.ref l]) Q E s:=by
 have hlt:l < s.heap.objs.size:=by obtain ⟨_,e,_⟩:=hl;exact Heap.lt_size e
 refine call_max_walk (wpAny_pyIter_tuple hl ?_)
 refine ⟨_,[_,l],[_],_,_,_,_,rfl,Walks.tuple (A:=A.in1) hh _ l (Nat.ne_of_lt hlt) (intItems xs),⟨⟨_,Heap.get?_push_size _ rfl,rfl,rfl⟩,hl.push _⟩,fun c hc=>?_,by simpa [intItems] using hne,CmpOf.ints_gt (numAt xs) (fun _ _=>intItems_at),fun v h' tk hP hk=>?_⟩
 ·show c < (s.heap.push _).objs.size
  rw [Heap.size_push]
  rcases List.mem_cons.mp hc with rfl | hc
  ·exact Nat.lt_succ_self _
  ·rcases List.mem_cons.mp hc with rfl | hc
   ·exact Nat.lt_succ_of_lt hlt
   ·cases hc
 ·refine h v h' tk (by simpa [intItems] using hP) fun b o e=>hk b o (fun hm=>?_) (Heap.get?_push_of_some _ e)
  rcases List.mem_cons.mp hm with e1 | hm
  ·exact absurd (e1 ▸ Heap.lt_size e) (Nat.lt_irrefl _)
  ·cases hm
theorem vC (hc:X.calm=true):aZ X (.builtin "max") (fun xs H Q=>∃ a ns,xs=[.ref a]/\SqT X.K H a (ns.map V.int)/\ns ≠ []/\Q (.int (dU ns)) H):=by
 intro pins s σ H xs us Q I r h
 obtain ⟨a,ns,rfl,sq,hne,q⟩:=h
 obtain ⟨u,rfl,ru⟩:=cW r
 cases ru
 obtain ⟨its,rv,pl,hz⟩:=I.tuple sq
 have hi:=bT rv
 have hl:s.heap.IsTuple a its.toArray:=pl
 obtain ⟨ys,e⟩:=hi.allInts.items
 have hns:ns=ys.toList.map (·.1):=by
  have h1:=hi.numsOf
  rw [<-nums_intItems,<-e]
  exact h1.symm
 have hsz:0 < ys.size:=by
  have h3:0 < ns.length:=List.length_pos_iff.mpr hne
  rw [hns,List.length_map,Array.length_toList] at h3;exact h3
 rw [e] at hl
 refine om (I.ok.hd hc) hl hsz fun v h' tk hv hk=>?_
 obtain ⟨t,rfl⟩:=intItems_at hv
 obtain ⟨b1,b2⟩:=argBest_gt (numAt ys) (ys.size - 1)
 have key:∀ M:Int,M ∈ ns->(∀ a,a ∈ ns->a<=M)->∃ x H',Inv X pins σ H' { s with heap:=h',toks:=tk }/\aK x (.int M t)/\Q x H':=fun M h1 h2=>⟨.int (dU ns),H,I.kept hk,⟨t,by rw [r9 h1 h2]⟩,q⟩
 refine key _ ?_ fun a ha=>?_
 ·rw [hns,numAt_eq];exact getD_mem (by rw [List.length_map,Array.length_toList];omega)
 ·rw [hns] at ha
  obtain ⟨j,hj,rfl⟩:=mem_getD ha
  rw [List.length_map,Array.length_toList] at hj
  rw [<-numAt_eq];exact b2 j (by omega)
noncomputable def jV (tu:Bool) (ds:List D) (S:Sto):Option (D × Sto):=match iz ds with
 | some (n::ns)=>some (.int (dU (n::ns)),S)
 | _=>none
theorem vD (hc:X.calm=true):aZ X (.builtin "max") (r1 (rSq X.K jV)):=by
 refine aZ.imp (aZ.or (vB hc) (vC hc)) fun xs H Q h=>?_
 obtain ⟨_,rfl,m,S,tu,ds,a,vs,d,S',R,rfl,sq,vd,e,q⟩:=eK h
 unfold jV at e
 split at e
 ·rename_i n ns hi
  cases e
  have ed:=iA hi
  subst ed
  have ev:=gq vd
  subst ev
  rcases gU sq with sq | sq
  ·exact .inl ⟨a,n::ns,rfl,sq,by simp,q m H _ (Aft.refl R) bm⟩
  ·exact .inr ⟨a,n::ns,rfl,sq,by simp,q m H _ (Aft.refl R) bm⟩
 ·cases e
end
end Ev
namespace Ev
open PySem PySem.Spec PyProof.Rows L2
theorem xO (a d:Value):argsOk "max" ⟨[a],[(Str.ofString "default", d)]⟩:=by unfold argsOk;kernel_rfl
section
variable {prog:Program} {w:World} {A:Around} {R:Result->Shared->Prop} {I S:Addr} {fp wr:List Addr} {n:Nat} {P:Nat->Value->Prop} {St:Nat->Heap->Prop} {bt:Nat->Nat->Bool} {kw:List (Str × Value)}
theorem tK:(toString "max" ++ toString ".loop" : String) = "max.loop" := by decide
theorem kN (W:Walks prog w A.in1 I fp wr n P St) (gc:CmpOf prog w A.in1 .Gt P bt) (gS:S ∉ fp):∀ (m i:Nat) (s:Shared) (b:Value) (c:Nat),i+1+m=n->St (i+1) s.heap->P (argBest bt i) b->s.heap.get? S=some { cls:=.type "list", dict:=none,data:=.seq #[b,b] c,slots:=#[] } ->
  (∀ v h' tk,P (argBest bt (n - 1)) v->(∀ a o,a ∉ wr->a ≠ S->s.heap.get? a=some o->h'.get? a=some o)->R (.ok (.ret v)) { s with heap:=h',toks:=tk })->codeAny (model prog w) A (.builtin "max.loop" ⟨[.ref I,.none,.ref S],kw⟩) R s
 | 0,i,s,b,c,e,st,pb,gs,r=>by
  have sw:S ∉ wr:=fun h=>gS (W.sub _ h)
  refine codeAny_builtin F.entry_max_loop ?_
  rw [Around.under_plainId F.plain_max_loop _]
  show wpAny _ A.in1 (seqItems? (.ref S) >>= _) _ _ s
  refine wpAny_bind (wpAny_seqItems gs rfl ?_)
  show wpAny _ A.in1 (tryCatch (pyNext (.ref I)) _ >>= _) _ _ s
  refine wpAny_bind (wpAny_tryCatch (W.done s _ _ (by rw [<-e];exact st) fun h' tk kk=>?_))
  show wpAny _ A.in1 (updateSeq S (fun _=>#[]) >>= _) _ _ _
  refine wpAny_bind (wpAny_updateSeq (kk S _ sw gs) rfl (wpAny_bind (wpAny_letGo (wpAny_pure ?_))))
  exact r b _ tk (by rw [<-e];exact pb) fun a o aw aS z=>(Heap.get?_update_other _ _ (Ne.symm aS)).trans (kk a o aw z)
 | m+1,i,s,b,c,e,st,pb,gs,r=>by
  have sw:S ∉ wr:=fun h=>gS (W.sub _ h)
  refine codeAny_builtin F.entry_max_loop ?_
  rw [Around.under_plainId F.plain_max_loop _]
  show wpAny _ A.in1 (seqItems? (.ref S) >>= _) _ _ s
  refine wpAny_bind (wpAny_seqItems gs rfl ?_)
  show wpAny _ A.in1 (tryCatch (pyNext (.ref I)) _ >>= _) _ _ s
  refine wpAny_bind (wpAny_tryCatch (W.item (i+1) s _ _ (by omega) st fun v h' tk pv st' kk=>?_))
  have gs':=kk S _ sw gs
  show wpAny _ A.in1 (tryCatch (holding [v,v] (richCompare .Gt v b >>= _)) _ >>= _) _ _ _
  refine wpAny_bind (wpAny_tryCatch (wpAny_holding (wpAny_bind (gc (i+1) (argBest bt i) v b _ _ _ pv pb ?_))))
  refine wpAny_bind (wpAny_holding (wpAny_truthy_bool ?_))
  refine wpAny_bind (wpAny_letGo (wpAny_pure ?_))
  cases hb:bt (i+1) (argBest bt i) with
  | true=>
   simp only [if_true]
   refine wpAny_bind (wpAny_updateSeq gs' rfl (wpAny_bind (wpAny_letGo ?_)))
   rw [tK]
   refine wpAny_pure ⟨plainId_quiet F.plain_max_loop _,kN W gc gS m (i+1) _ v _ (by omega) (W.frame _ _ _ st' fun a af o z=>?_) (by simp only [argBest,hb,if_true];exact pv) (Heap.get?_update_self _ gs' rfl) fun v' h'' tk'' pv' k2=>?_⟩
   ·exact (Heap.get?_update_other _ _ (fun z:S=a=>gS (by rw [z];exact af))).trans z
   ·exact r v' h'' tk'' pv' fun a o aw aS z=>k2 a o aw aS ((Heap.get?_update_other _ _ (Ne.symm aS)).trans (kk a o aw z))
  | false=>
   simp only [Bool.false_eq_true,if_false]
   refine wpAny_bind (wpAny_letGo ?_)
   rw [tK]
   refine wpAny_pure ⟨plainId_quiet F.plain_max_loop _,kN W gc gS m (i+1) _ b c (by omega) st' (by simp only [argBest,hb,Bool.false_eq_true,if_false];exact pb) gs' fun v' h'' tk'' pv' k2=>?_⟩
   exact r v' h'' tk'' pv' fun a o aw aS z=>k2 a o aw aS (kk a o aw z)
theorem vE (W:Walks prog w A.in1 I fp wr n P St) (gc:CmpOf prog w A.in1 .Gt P bt) (gS:S ∉ fp) (gn:0 < n) {s:Shared} {c:Nat} (st:St 0 s.heap) (gs:s.heap.get? S=some { cls:=.type "list", dict:=none,data:=.seq #[] c,slots:=#[] })
  (r:∀ v h' tk,P (argBest bt (n - 1)) v->(∀ a o,a ∉ wr->a ≠ S->s.heap.get? a=some o->h'.get? a=some o)->R (.ok (.ret v)) { s with heap:=h',toks:=tk }):codeAny (model prog w) A (.builtin "max.loop" ⟨[.ref I,.none,.ref S],kw⟩) R s:=by
 have sw:S ∉ wr:=fun h=>gS (W.sub _ h)
 refine codeAny_builtin F.entry_max_loop ?_
 rw [Around.under_plainId F.plain_max_loop _]
 show wpAny _ A.in1 (seqItems? (.ref S) >>= _) _ _ s
 refine wpAny_bind (wpAny_seqItems gs rfl ?_)
 show wpAny _ A.in1 (tryCatch (pyNext (.ref I)) _ >>= _) _ _ s
 refine wpAny_bind (wpAny_tryCatch (W.item 0 s _ _ gn st fun v h' tk pv st' kk=>?_))
 have gs':=kk S _ sw gs
 show wpAny _ A.in1 (updateSeq S (fun _=>#[v,v]) >>= _) _ _ _
 refine wpAny_bind (wpAny_updateSeq gs' rfl ?_)
 rw [tK]
 refine wpAny_pure ⟨plainId_quiet F.plain_max_loop _,kN W gc gS (n - 1) 0 _ v _ (by omega) (W.frame _ _ _ st' fun a af o z=>?_) pv (Heap.get?_update_self _ gs' rfl) fun v' h'' tk'' pv' k2=>?_⟩
 ·exact (Heap.get?_update_other _ _ (fun z:S=a=>gS (by rw [z];exact af))).trans z
 ·exact r v' h'' tk'' pv' fun a o aw aS z=>k2 a o aw aS ((Heap.get?_update_other _ _ (Ne.symm aS)).trans (kk a o aw z))
theorem xP {d:Value} (W:Walks prog w A.in1 I fp wr 0 P St) (gS:S ∉ fp) {s:Shared} {c:Nat} (st:St 0 s.heap) (gs:s.heap.get? S=some { cls:=.type "list", dict:=none,data:=.seq #[] c,slots:=#[] })
  (r:∀ h' tk,(∀ a o,a ∉ wr->s.heap.get? a=some o->h'.get? a=some o)->R (.ok (.ret d)) { s with heap:=h',toks:=tk }):codeAny (model prog w) A (.builtin "max.loop" ⟨[.ref I,.none,.ref S],[(Str.ofString "default", d)]⟩) R s:=by
 refine codeAny_builtin F.entry_max_loop ?_
 rw [Around.under_plainId F.plain_max_loop _]
 show wpAny _ A.in1 (seqItems? (.ref S) >>= _) _ _ s
 refine wpAny_bind (wpAny_seqItems gs rfl ?_)
 show wpAny _ A.in1 (tryCatch (pyNext (.ref I)) _ >>= _) _ _ s
 refine wpAny_bind (wpAny_tryCatch (W.done s _ _ st fun h' tk kk=>?_))
 exact wpAny_bind (wpAny_rule (wpAny_pure (r h' tk kk)))
variable {E:Value->Shared->Prop} {s:Shared} {l:Addr} {xs:Array (Int × Tok)}
theorem xQ {d:Value} {Q:Value->Shared->Prop} (hh:A.handled=none) (hl:s.heap.IsList l (intItems xs))
  (h1:0 < xs.size->∀ v h' tk,(intItems xs)[argBest (fun i j=>decide (numAt xs i > numAt xs j)) (xs.size - 1)]?=some v->(∀ b o,s.heap.get? b=some o->h'.get? b=some o)->Q v { s with heap:=h',toks:=tk })
  (h2:xs.size=0->∀ h' tk,(∀ b o,s.heap.get? b=some o->h'.get? b=some o)->Q d { s with heap:=h',toks:=tk }):wpAny (model prog w) A (call (.builtin "max") [.ref l] [(Str.ofString "default", d)]) Q E s:=by
 refine kmb_tree F.kind_max F.plain_max F.entry_max (xO _ _) ?_
 show wpAny _ A.in1 (Builtin.Builtins.bindParams "max" ["key", "default"] 0 ⟨[],[(Str.ofString "default", d)]⟩ >>= _) _ _ s
 refine wpAny_bind (wpAny_of_eq (show Builtin.Builtins.bindParams "max" ["key", "default"] 0 ⟨[],[(Str.ofString "default", d)]⟩=pure [none,some d] from rfl) ?_)
 refine wpAny_bind (wpAny_pure ?_)
 refine wpAny_bind (iter_intList hl fun s2 e st fpl lI=>?_)
 subst e
 have W:=Walks.list (prog:=prog) (w:=w) (A:=A.in1) hh s.heap.objs.size l lI (intItems xs)
 refine wpAny_bind (wpAny_newObj_type ?_)
 have gS:∀ b ∈ [s.heap.objs.size,l],b < (s.heap.push { cls:=.type "list_iterator", data:=.fields #[.ref l,.int 0 0] }).objs.size:=fpl
 rw [tK]
 by_cases hz:xs.size=0
 ·have e0:(intItems xs).size=0:=by simpa [intItems] using hz
  rw [e0] at W
  refine wpAny_pure ⟨plainId_quiet F.plain_max_loop _,xP W (fun hm=>Nat.lt_irrefl _ (fpl _ hm)) (W.frame _ _ _ st fun b _ o e=>Heap.get?_push_of_some _ e) (Heap.get?_push_size _ rfl) fun h' tk hk=>?_⟩
  exact h2 hz h' tk (old_kept fun b o hb e=>hk b o hb (Heap.get?_push_of_some _ e))
 ·refine wpAny_pure ⟨plainId_quiet F.plain_max_loop _,vE W (CmpOf.ints_gt (numAt xs) (fun _ _=>intItems_at)) (fun hm=>Nat.lt_irrefl _ (fpl _ hm)) (by simp [intItems];omega) (W.frame _ _ _ st fun b _ o e=>Heap.get?_push_of_some _ e) (Heap.get?_push_size _ rfl) fun v h' tk pv hk=>?_⟩
  exact h1 (by omega) v h' tk (by simpa [intItems] using pv) (old_kept fun b o hb e=>hk b o hb (Nat.ne_of_lt (Heap.lt_size e)) (Heap.get?_push_of_some _ e))
end
noncomputable def oo (c:Int):List Int->Int
 | []=>c
 | n::ns=>dU (n::ns)
noncomputable def gH (c:Int) (tu:Bool) (ds:List D) (S:Sto):Option (D × Sto):=match tu,iz ds with
 | false,some ns=>some (.int (oo c ns),S)
 | _,_=>none
section
variable {X:Cx} {K:PySem.W.Frag} {m:List Addr} {H:Hp} {S:Sto} {e:Expr} {t:TA} {p pos kp vp:Pos} {c:Int} {j:Nat}
theorem FA (hc:X.calm=true) (hg:Gl X "max") (hm:X.mg "max" = none) (hdb:(("max" : Str) == ("__debug__" : Str))=false) (ha:PA X [e] t) (he:starEach [e] X.env=(false,eval e X.env)::starEach [] X.env) :
  PE X (.Call (.Name "max" p) [e] [⟨some "default", .Constant (.int c) j vp,kp⟩] pos) (tCB (r1 (rSq X.K (gH c))) t):=by
 intro pins s σ H Q I h
 refine wpAny_Call_Name_kw (eC I hg hm PyProof.Rows.boot_max ?_ (by decide) hdb)
 refine callWith_kw (thn (ha pos pins s σ H _ I h) fun us s1 ⟨vs,H1,I1,r,q1⟩=>?_) (by rw [he];rfl) (by rw [he];rfl) rfl rfl
 refine thn (Al (nm:=some "default") (kpos:=kp) (wp (X:=X) (i:=c) (j:=j) (pos:=vp)) EU pos pins s1 σ H1 _ I1 (show cB (tC (.int c)) jP σ H1 (fun zs H2=>zs=[.int c]/\H2=H1) from ⟨rfl,rfl⟩)) fun ks s2 ⟨zs,H2,I2,rz,ez,eH⟩=>?_
 subst ez eH
 obtain ⟨u,rfl,ru⟩:=cW rz
 obtain ⟨tk,rfl⟩:=ru
 obtain ⟨_,rfl,m,S,tu,ds,a,ws,d,S',R,rfl,sq,vd,e',q⟩:=eK q1
 obtain ⟨u',rfl,ru'⟩:=cW r
 cases ru'
 unfold gH at e'
 split at e'
 ·rename_i ns hi
  cases e'
  have ed:=iA hi
  subst ed
  have ev:=gq vd
  subst ev
  have sq:SqL X.K H2 a (ns.map V.int):=sq
  obtain ⟨its,rv,pl,hz⟩:=I2.list sq
  have hi:=bT rv
  have hl:=pl.isList
  obtain ⟨ys,ey⟩:=hi.allInts.items
  have hns:ns=ys.toList.map (·.1):=by
   have h1:=hi.numsOf
   rw [<-nums_intItems,<-ey]
   exact h1.symm
  have hlen:ns.length=ys.size:=by rw [hns,List.length_map,Array.length_toList]
  rw [ey] at hl
  refine xQ (I2.ok.hd hc) hl (fun hsz v h' tk' hv hk=>?_) (fun hsz h' tk' hk=>?_)
  ·obtain ⟨t',rfl⟩:=intItems_at hv
   obtain ⟨b1,b2⟩:=argBest_gt (numAt ys) (ys.size - 1)
   have et:oo c ns=dU ns:=by
    cases ns with
    | nil=>rw [List.length_nil] at hlen;omega
    | cons n ns=>rfl
   have key:∀ M:Int,M ∈ ns->(∀ a,a ∈ ns->a<=M)->∃ x H',Inv X pins σ H' { s2 with heap:=h',toks:=tk' }/\aK x (.int M t')/\Q x H':=fun M h1 h2=>⟨.int (oo c ns),H2,I2.kept hk,⟨t',by rw [r9 h1 h2,et]⟩,q m H2 _ (Aft.refl R) bm⟩
   refine key _ ?_ fun a ha=>?_
   ·rw [hns,numAt_eq];exact getD_mem (by rw [List.length_map,Array.length_toList];omega)
   ·rw [hns] at ha
    obtain ⟨j,hj,rfl⟩:=mem_getD ha
    rw [List.length_map,Array.length_toList] at hj
    rw [<-numAt_eq];exact b2 j (by omega)
  ·have en:ns=[]:=List.length_eq_zero_iff.mp (by omega)
   subst en
   exact ⟨.int c,H2,I2.kept hk,⟨tk,rfl⟩,q m H2 _ (Aft.refl R) bm⟩
 ·cases e'
end
end Ev
namespace Ev
open PySem PySem.Spec PyProof.Rows L2
section
variable {X:Cx} {K:PySem.W.Frag} {m:List Addr} {H:Hp} {S:Sto}
noncomputable def dW (d:D) (S:Sto):Bool:=match d with
 | .ref n=>(aj S n).isSome
 | _=>false
noncomputable def isTup:D->Bool
 | .tup _=>true
 | _=>false
noncomputable def vF (c:D->Sto->Bool) (f:D->List D->Sto->Option (D × Sto)) (x:XE) (y:XA):XE:=fun ρ S=>bnd (x ρ S) fun d S1=>if c d S1=true then bnd (y ρ S1) fun as S2=>f d as S2 else none
noncomputable def rM (K:PySem.W.Frag) (f:D->List D->Sto->Option (D × Sto)):V->List V->Hp->VK->Prop:=fun v vs H Q=>∃ m S a as d S',Rel K m S H/\VD K m H a v/\VDs K m H as vs/\f a as S=some (d,S')/\∀ m' H' u,Aft K m H S' m' H'->VD K m' H' d u->Q u H'
theorem oq {T:String} {c:D->Sto->Bool} {f:D->List D->Sto->Option (D × Sto)} {x:XE} {y:XA} {σ:L2.St} {H:Hp} {Q:VK} (hT:∀ {m H S d v},Rel K m S H->VD K m H d v->c d S=true->tyV K T v H) (h:tE K (vF c f x y) σ H Q):tBM K T (rM K f) (tE K x) (tAr K y) σ H Q:=by
 obtain ⟨m,ρ,S,d,S',E,R,e,q⟩:=h
 obtain ⟨a,S1,e1,e⟩:=ab e
 split at e
 ·rename_i hc
  obtain ⟨as,S2,e2,e⟩:=ab e
  refine ⟨m,ρ,S,a,S1,E,R,e1,fun m1 H1 v A1 va=>⟨hT A1.rel va hc,m1,ρ,S1,as,S2,E.mono R A1.ext,A1.rel,e2,fun m2 H2 vs A2 vb=>?_⟩⟩
  exact ⟨m2,S2,a,as,d,S',A2.rel,va.mono A1.rel A2.ext,vb,e,fun m3 H3 u A3 vd=>q m3 H3 u ((A1.trans A2).trans A3) vd⟩
 ·cases e
theorem sd {d:D} {v:V} (R:Rel K m S H) (vd:VD K m H d v) (h:dW d S=true):tyV K "list" v H:=by
 cases d with
 | ref n=>
  simp only [dW] at h
  obtain ⟨ds,hs⟩:=Option.isSome_iff_exists.mp h
  obtain ⟨p,vs,hp,sq,vds⟩:=R.seq hs
  obtain ⟨p',hp',rfl⟩:=vd.refs
  rw [hp] at hp'
  cases hp'
  exact .inl ⟨rfl,vs,sq⟩
 | _=>cases h
theorem FB {d:D} {v:V} (R:Rel K m S H) (vd:VD K m H d v) (h:(fun d (_:Sto)=>isTup d) d S=true):tyV K "tuple" v H:=by
 cases d with
 | tup ds=>
  obtain ⟨a,vs,rfl,sq,_⟩:=vd.tups
  exact .inr (.inl ⟨rfl,.inr ⟨vs,sq⟩⟩)
 | _=>cases h
noncomputable def chg (n:Nat) (S:Sto) (f:List D->Option (D × List D)):Option (D × Sto):=match S[n]? with
 | some (.lst ds)=>(f ds).map fun r=>(r.1,S.set n (.lst r.2))
 | _=>none
theorem kO {n:Nat} {S S':Sto} {f:List D->Option (D × List D)} {d:D} (h:chg n S f=some (d,S')):∃ ds es,S[n]?=some (.lst ds)/\f ds=some (d,es)/\S'=S.set n (.lst es):=by
 unfold chg at h
 cases hn:S[n]? with
 | none=>rw [hn] at h;cases h
 | some o=>
  rw [hn] at h
  cases o with
  | lst ds=>
   dsimp only at h
   cases hf:f ds with
   | none=>rw [hf] at h;cases h
   | some r=>rw [hf] at h;cases h;exact ⟨ds,r.2,rfl,hf,rfl⟩
  | _=>cases h
noncomputable def se (d:D) (as:List D) (S:Sto):Option (D × Sto):=match d,as with
 | .ref n,[e]=>chg n S fun ds=>if ds.length < 100000 then some (.non,ds++[e]) else none
 | _,_=>none
noncomputable def eN (d:D) (as:List D) (S:Sto):Option (D × Sto):=match d,as with
 | .ref n,[.int i]=>chg n S fun ds=>match ixN ds.length i with
  | some k=>(ds[k]?).map fun x=>(x,ds.eraseIdx k)
  | none=>none
 | _,_=>none
theorem kP {n:Nat} {v:V} {ds:List D} (R:Rel K m S H) (vd:VD K m H (.ref n) v) (hn:S[n]?=some (.lst ds)):∃ a vs,v = .ref a/\m[n]?=some a/\H a=some (.lst vs)/\VDs K m H ds vs:=by
 obtain ⟨a,vs,ha,hH,q⟩:=R.lst hn
 obtain ⟨a',ha',e⟩:=vd.refs
 rw [ha] at ha'
 cases ha'
 exact ⟨a,vs,e,ha,hH,q⟩
theorem gr {n:Nat} {a:Addr} {es:List D} {ws:List V} (R:Rel K m S H) (ha:m[n]?=some a) (vd:VDs K m H es ws):Aft K m H (S.set n (.lst es)) m (upd H a (.lst ws)):=let ⟨x,y⟩:=R.write ha vd;⟨x,y⟩
theorem FC:MtR X "list.append" (rM X.K se):=by
 intro pins s σ H x xs v us Q I rx rs h
 refine mI pins s σ H x xs v us Q I rx rs ?_
 obtain ⟨m,S,a,as,d,S',R,va,vs,e,q⟩:=h
 unfold se at e
 split at e
 ·rename_i n z
  obtain ⟨ds,es,hn,hf,rfl⟩:=kO e
  split at hf
  ·rename_i hl
   cases hf
   obtain ⟨p,ws,rfl,hp,hH,vds⟩:=kP R va hn
   obtain ⟨y,rfl,vy⟩:=AW vs
   refine ⟨p,ws,y,rfl,rfl,hH,by rw [sizeLine_eq,<-vds.length];omega,q m _ _ (gr R hp (vds.append (.cons vy .nil))) n6⟩
  ·cases hf
 ·cases e
theorem p0:∀ {ds:List D} {vs:List V} (k:Nat),VDs K m H ds vs->VDs K m H (ds.eraseIdx k) (vs.eraseIdx k)
 | [],vs,k,h=>by rw [VDs] at h;subst h;exact .nil
 | d::ds,vs,0,h=>by
  rw [VDs] at h
  obtain ⟨y,r,rfl,p,q⟩:=h
  exact q
 | d::ds,vs,k+1,h=>by
  rw [VDs] at h
  obtain ⟨y,r,rfl,p,q⟩:=h
  exact .cons p (p0 k q)
theorem vG:MtR X "list.pop" (rM X.K eN):=by
 intro pins s σ H x xs v us Q I rx rs h
 refine wY pins s σ H x xs v us Q I rx rs ?_
 obtain ⟨m,S,a,as,d,S',R,va,vs,e,q⟩:=h
 unfold eN at e
 split at e
 ·rename_i n i
  obtain ⟨ds,es,hn,hf,rfl⟩:=kO e
  cases hk:ixN ds.length i with
  | none=>rw [hk] at hf;cases hf
  | some k=>
   rw [hk] at hf
   dsimp only at hf
   cases hl:ds[k]? with
   | none=>rw [hl] at hf;cases hf
   | some z=>
    rw [hl] at hf
    cases hf
    obtain ⟨p,ws,rfl,hp,hH,vds⟩:=kP R va hn
    obtain ⟨y,rfl,vi⟩:=AW vs
    cases vi.ints
    obtain ⟨y,hy,vy⟩:=vds.get hl
    have A:=gr R hp (p0 k vds)
    obtain ⟨h1,h2,h3,h4⟩:=nI hk
    have hz:=(I.lst hH).choose_spec.choose_spec.2.2
    have hle:=vds.length
    rw [sizeLine_eq] at hz
    exact ⟨p,ws,i,k,y,rfl,rfl,hH,by omega,by omega,by rw [<-vds.length];exact h1,hy,q m _ _ A (vy.mono R A.ext)⟩
 ·cases e
noncomputable def sf (d:D) (as:List D) (S:Sto):Option (D × Sto):=match d,as with
 | .tup ds,[x]=>if cm x=true/\ds.all cm=true then some (.int (ds.countP fun z=>eqF z x:Nat),S) else none
 | _,_=>none
theorem A6:MtR X "tuple.count" (rM X.K sf):=by
 intro pins s σ H x xs v us Q I rx rs h
 refine uV X.K rfl pins s σ H x xs v us Q I rx rs ?_
 obtain ⟨m,S,a,as,d,S',R,va,vs,e,q⟩:=h
 unfold sf at e
 split at e
 ·rename_i ds z
  split at e
  ·rename_i hf
   cases e
   obtain ⟨p,ws,rfl,sq,vds⟩:=va.tups
   obtain ⟨y,rfl,vy⟩:=AW vs
   exact ⟨p,ws,y,rfl,rfl,.of sq,j7 vy hf.1,iy vds hf.2,q m H _ (Aft.refl R) (by rw [mN vy hf.1 vds hf.2];exact bm)⟩
  ·cases e
 ·cases e
noncomputable def kQ (o i v:D) (S:Sto):Option Sto:=match o,i with
 | .ref n,.int k=>(match S[n]? with
  | some (.lst ds)=>(ixN ds.length k).map fun j=>S.set n (.lst (ds.set j v))
  | _=>none)
 | _,_=>none
noncomputable def JO (K:PySem.W.Frag):z9:=fun o i v H Q=>∃ m S a b c S',Rel K m S H/\VD K m H a o/\VD K m H b i/\VD K m H c v/\kQ a b c S=some S'/\∀ m' H',Aft K m H S' m' H'->Q H'
theorem JP:Ey X (JO X.K):=by
 intro pins s σ H o i v ov iv u Q I ro ri rv h
 refine wW pins s σ H o i v ov iv u Q I ro ri rv ?_
 obtain ⟨m,S,a,b,c,S',R,va,vb,vc,e,q⟩:=h
 unfold kQ at e
 split at e
 ·rename_i n k
  cases hn:S[n]? with
  | none=>rw [hn] at e;cases e
  | some ob=>
   rw [hn] at e
   cases ob with
   | lst ds=>
    dsimp only at e
    cases hj:ixN ds.length k with
    | none=>rw [hj] at e;cases e
    | some j=>
     rw [hj] at e
     cases e
     obtain ⟨p,ws,rfl,hp,hH,vds⟩:=kP R va hn
     cases vb.ints
     exact ⟨p,ws,k,j,rfl,rfl,hH,by rw [<-vds.length];exact hj,q m _ (gr R hp (vds.set vc))⟩
   | _=>cases e
 ·cases e
open Classical in
end
end Ev
namespace Ev
open PySem PySem.Spec PyProof.Rows L2
section
variable {X:Cx} {K:PySem.W.Frag} {m:List Addr} {H:Hp} {S:Sto}
noncomputable def sg (d:D) (as:List D) (S:Sto):Option (D × Sto):=match d,as with
 | .ref n,[.ref k]=>(match S[k]? with
  | some (.lst ys)=>chg n S fun ds=>if ds.length+ys.length<=100000 then some (.non,ds++ys) else none
  | _=>none)
 | _,_=>none
theorem A7:MtR X "list.extend" (rM X.K sg):=by
 intro pins s σ H x xs v us Q I rx rs h
 refine uN pins s σ H x xs v us Q I rx rs ?_
 obtain ⟨m,S,a,as,d,S',R,va,vs,e,q⟩:=h
 unfold sg at e
 split at e
 ·rename_i n k
  split at e
  ·rename_i ys hk
   obtain ⟨ds,es,hn,hf,rfl⟩:=kO e
   split at hf
   ·rename_i hl
    cases hf
    obtain ⟨p,ws,rfl,hp,hH,vds⟩:=kP R va hn
    obtain ⟨y,rfl,v1⟩:=AW vs
    obtain ⟨p2,ws2,rfl,hp2,hH2,rN⟩:=kP R v1 hk
    exact ⟨p,p2,ws,ws2,rfl,rfl,hH,hH2,by rw [sizeLine_eq,<-vds.length,<-rN.length];omega,q m _ _ (gr R hp (vds.append rN)) n6⟩
   ·cases hf
  ·cases e
 ·cases e
end
end Ev
namespace Ev
open PySem PySem.Spec PyProof.Rows L2
noncomputable abbrev Nxt:=Nat->Sto->Option (Option D)
noncomputable abbrev XI:=Rho->Sto->Option (Nxt × Sto)
structure ExtB (B:List Addr) (m:List Addr) (H:Hp) (m':List Addr) (H':Hp):Prop where
 pre:m <+: m'
 keep:∀ a o,H a=some o->a ∉ m->a ∉ B->H' a=some o
 new:∀ a,a ∈ m'->a ∉ m->H a=none
 nb:∀ b,b ∈ B->b ∉ m'
noncomputable def AtB (B:List Addr) (m:List Addr) (H:Hp):Prop:=∀ b,b ∈ B->(∃ vs,H b=some (.lst vs))/\b ∉ m
theorem Ext.toB {B m m':List Addr} {H H':Hp} (hB:AtB B m H) (x:Ext m H m' H'):ExtB B m H m' H':=⟨x.pre,fun a o h n _=>x.keep a o h n,x.new,fun b hb z=>by
 obtain ⟨⟨vs,e⟩,n⟩:=hB b hb
 have:=x.new b z n
 rw [e] at this;cases this⟩
theorem ExtB.trans {B m m1 m2:List Addr} {H H1 H2:Hp} (x:ExtB B m H m1 H1) (y:ExtB B m1 H1 m2 H2):ExtB B m H m2 H2:=by
 refine ⟨x.pre.trans y.pre,fun a o h n nb=>?_,fun a h n=>?_,y.nb⟩
 ·have n1:a ∉ m1:=fun z=>by have:=x.new a z n;rw [this] at h;cases h
  exact y.keep a o (x.keep a o h n nb) n1 nb
 ·by_cases h1:a ∈ m1
  ·exact x.new a h1 n
  ·cases e:H a with
   | none=>rfl
   | some o=>
    by_cases hb:a ∈ B
    ·exact absurd h (y.nb a hb)
    ·have:=x.keep a o e n hb
     rw [y.new a h h1] at this;cases this
theorem AtB.ext {B m m':List Addr} {H H':Hp} (hB:AtB B m H) (x:Ext m H m' H'):AtB B m' H':=fun b hb=>by
 obtain ⟨⟨vs,e⟩,n⟩:=hB b hb
 exact ⟨⟨vs,x.keep _ _ e n⟩,(x.toB hB).nb b hb⟩
noncomputable def IOk (K:PySem.W.Frag) (B:List Addr) (J:It) (nx:Nxt) (m0:List Addr) (H0:Hp):Prop:=∀ (m:List Addr) (S:Sto) (H:Hp) (i:Nat),ExtB B m0 H0 m H->Rel K m S H ->
 (nx i S=some none->J.stop i H)/\(∀ d,nx i S=some (some d)->J.go i H/\∀ x H',J.yld i H x H'->Aft K m H S m H'/\VD K m H' d x)
noncomputable def tIt (K:PySem.W.Frag) (B:List Addr) (x:XI):TI:=fun σ H R=>∃ m ρ S nx S',EnvR K m H ρ σ/\Rel K m S H/\AtB B m H/\x ρ S=some (nx,S')/\∀ m' H' J,Aft K m H S' m' H'->IOk K B J nx m' H'->R J H'
noncomputable def nxL (ds:List D):Nxt:=fun i _=>some ds[i]?
noncomputable def nxS (n:Nat):Nxt:=fun i S=>(aj S n).map fun ds=>ds[i]?
noncomputable def nxR (lo:Int) (n:Nat):Nxt:=fun i _=>some (if i < n then some (.int (lo+i)) else none)
noncomputable def cX (i:Nat) (d:D):D:=.tup [.int i,d]
noncomputable def enm (ds:List D) (i:Nat):Option (Option D):=if i<=ds.length then some (ds[i]?.map (cX i)) else none
noncomputable def p9 (ds:List D):Nxt:=fun i _=>enm ds i
noncomputable def xR (n:Nat):Nxt:=fun i S=>(aj S n).bind fun ds=>enm ds i
section
variable {X:Cx} {K:PySem.W.Frag} {m B:List Addr} {H:Hp} {S:Sto}
theorem A8 {m0 m:List Addr} {H0 H:Hp} {S0:Sto} {a:Addr} {xs:List V} (R:Rel K m0 S0 H0) (hB:AtB B m0 H0) (x:ExtB B m0 H0 m H) (h:H0 a=some (.tup xs)):H a=some (.tup xs):=x.keep _ _ h (R.notTup h) fun z=>by
 obtain ⟨⟨vs,e⟩,_⟩:=hB a z
 rw [e] at h;cases h
theorem VDs.monoB {m0 m:List Addr} {H0 H:Hp} {S0:Sto} {ds:List D} {vs:List V} (R:Rel K m0 S0 H0) (hB:AtB B m0 H0) (x:ExtB B m0 H0 m H) (h:VDs K m0 H0 ds vs):VDs K m H ds vs:=VDs.mono0 x.pre (fun _ _=>A8 R hB x) h
theorem VD.monoB {m0 m:List Addr} {H0 H:Hp} {S0:Sto} {d:D} {v:V} (R:Rel K m0 S0 H0) (hB:AtB B m0 H0) (x:ExtB B m0 H0 m H) (h:VD K m0 H0 d v):VD K m H d v:=VD.mono0 x.pre (fun _ _=>A8 R hB x) h
theorem EnvR.monoB {m0 m:List Addr} {H0 H:Hp} {S0:Sto} {ρ:Rho} {σ:L2.St} (R:Rel K m0 S0 H0) (hB:AtB B m0 H0) (x:ExtB B m0 H0 m H) (h:EnvR K m0 H0 ρ σ):EnvR K m H ρ σ:=
 ⟨h.len,fun i d e=>let ⟨v,p,q⟩:=h.at_ i d e;⟨v,p,VD.monoB R hB x q⟩⟩
theorem qa {a:Addr} {nx:Nxt} {m0:List Addr} {H0:Hp} (h:∀ m S H i o,ExtB B m0 H0 m H->Rel K m S H->nx i S=some o->∃ ds vs,o=ds[i]?/\SqL K H a vs/\VDs K m H ds vs):IOk K B (Itl K a) nx m0 H0:=by
 intro m S H i x R
 refine ⟨fun e=>?_,fun d e=>?_⟩
 ·obtain ⟨ds,vs,e',sq,vd⟩:=h m S H i _ x R e
  exact ⟨vs,sq,by rw [<-vd.length];exact List.getElem?_eq_none_iff.mp e'.symm⟩
 ·obtain ⟨ds,vs,e',sq,vd⟩:=h m S H i _ x R e
  obtain ⟨v,hv,vv⟩:=vd.get e'.symm
  refine ⟨⟨vs,v,sq,hv⟩,fun y H' ⟨eH,hy⟩=>?_⟩
  subst eH
  have:=hy vs sq
  rw [hv] at this
  cases this
  exact ⟨Aft.refl R,vv⟩
theorem A9 {a:Addr} {ds:List D} {vs:List V} {m0:List Addr} {H0:Hp} {S0:Sto} (R0:Rel K m0 S0 H0) (hB:AtB B m0 H0) (sq:H0 a=some (.tup vs)) (vd:VDs K m0 H0 ds vs):IOk K B (Itt K a) (nxL ds) m0 H0:=by
 intro m S H i x R
 have sq':SqT K H a vs:=.of (A8 R0 hB x sq)
 have vd':=vd.monoB R0 hB x
 refine ⟨fun e=>⟨vs,sq',?_⟩,fun d e=>?_⟩
 ·rw [<-vd'.length];exact List.getElem?_eq_none_iff.mp (Option.some.inj e)
 ·obtain ⟨v,hv,vv⟩:=vd'.get (Option.some.inj e)
  refine ⟨⟨vs,v,sq',hv⟩,fun y H' ⟨eH,hy⟩=>?_⟩
  subst eH
  have:=hy vs sq'
  rw [hv] at this
  cases this
  exact ⟨Aft.refl R,vv⟩
theorem tL {lo:Int} {n:Nat} {m0:List Addr} {H0:Hp}:IOk K B (Itr lo n) (nxR lo n) m0 H0:=by
 intro m S H i x R
 unfold nxR
 refine ⟨fun e=>?_,fun d e=>?_⟩
 ·split at e
  ·cases e
  ·show n<=i;omega
 ·split at e
  ·rename_i hi
   cases e
   exact ⟨hi,fun y H' ⟨eH,hy⟩=>by subst eH;subst hy;exact ⟨Aft.refl R,bm⟩⟩
  ·cases e
theorem ot {a:Addr} {sqf:PySem.W.Frag->Hp->Addr->List V->Prop} {nx:Nxt} {m0:List Addr} {H0:Hp} (h:∀ m S H i o,ExtB B m0 H0 m H->Rel K m S H->nx i S=some o->∃ ds vs,enm ds i=some o/\sqf K H a vs/\VDs K m H ds vs):IOk K B (Ite K a sqf) nx m0 H0:=by
 intro m S H i x R
 refine ⟨fun e=>?_,fun d e=>?_⟩
 ·obtain ⟨ds,vs,e',sq,vd⟩:=h m S H i _ x R e
  unfold enm at e'
  split at e'
  ·rename_i hl
   refine ⟨vs,sq,?_⟩
   rw [<-vd.length]
   cases hd:ds[i]? with
   | none=>have:=List.getElem?_eq_none_iff.mp hd;omega
   | some z=>rw [hd] at e';cases e'
  ·cases e'
 ·obtain ⟨ds,vs,e',sq,vd⟩:=h m S H i _ x R e
  unfold enm at e'
  split at e'
  ·cases hd:ds[i]? with
   | none=>rw [hd] at e';cases e'
   | some z=>
    rw [hd] at e'
    cases e'
    obtain ⟨v,hv,vv⟩:=vd.get hd
    refine ⟨⟨vs,v,sq,hv⟩,fun y H' ⟨T,hT,ey,hy⟩=>?_⟩
    subst ey
    have eH:=hy vs v sq hv
    subst eH
    have xb:=Ext.beside R hT (.tup [.int i,v])
    exact ⟨⟨xb,R.beside hT _⟩,kD bf (.cons bm (.cons (vv.mono R xb) .nil))⟩
  ·cases e'
noncomputable def MA (d:D):Option Nxt:=match d with
 | .tup ds=>some (nxL ds)
 | .ref n=>some (nxS n)
 | _=>none
noncomputable def xIV (x:XE):XI:=fun ρ S=>bnd (x ρ S) fun d S1=>match d with
 | .tup ds=>some (nxL ds,S1)
 | .ref n=>if (aj S1 n).isSome=true then some (nxS n,S1) else none
 | _=>none
noncomputable def xIT (x:XA):XI:=fun ρ S=>bnd (x ρ S) fun ds S1=>some (nxL ds,S1)
noncomputable def xEV (x:XE):XI:=fun ρ S=>bnd (x ρ S) fun d S1=>match d with
 | .tup ds=>some (p9 ds,S1)
 | .ref n=>if (aj S1 n).isSome=true then some (xR n,S1) else none
 | _=>none
noncomputable def xET (x:XA):XI:=fun ρ S=>bnd (x ρ S) fun ds S1=>some (p9 ds,S1)
noncomputable def lim (i:Int):Bool:=decide (-(2 ^ 62)<=i) && decide (i < 2 ^ 62)
noncomputable def xR1 (x:XE):XI:=fun ρ S=>bnd (x ρ S) fun d S1=>match d with
 | .int j=>if lim j=true then some (nxR 0 j.toNat,S1) else none
 | _=>none
noncomputable def xR2 (x y:XE):XI:=fun ρ S=>bnd (x ρ S) fun d S1=>bnd (y ρ S1) fun e S2=>match d,e with
 | .int i,.int j=>if lim i=true/\lim j=true then some (nxR i (j - i).toNat,S2) else none
 | _,_=>none
theorem jb {i:Int} (h:lim i=true):-(2 ^ 62)<=i/\i < 2 ^ 62:=by simpa [lim] using h
theorem cY {n:Nat} {a:Addr} {m0:List Addr} (ha:m0[n]?=some a) {m:List Addr} {S:Sto} {H:Hp} (x:m0 <+: m) (R:Rel K m S H) {ds:List D} (hs:aj S n=some ds):∃ vs,SqL K H a vs/\VDs K m H ds vs:=by
 obtain ⟨p,vs,hp,sq,vd⟩:=R.seq hs
 have:=jY x ha
 rw [this] at hp
 cases hp
 exact ⟨vs,sq,vd⟩
theorem JQ {a:Addr} (hB:AtB B m H) (h:H a=none):a ∉ B:=fun z=>by
 obtain ⟨⟨vs,e⟩,_⟩:=hB a z
 rw [h] at e;cases e
theorem L9 {x:XE} {σ:L2.St} {H:Hp} {R:It->Hp->Prop} (h:tIt K B (xIV x) σ H R):wJ K (tE K x) σ H R\/Jl K (tE K x) σ H R:=by
 obtain ⟨m,ρ,S,nx,S',E,Rl,hB,e,q⟩:=h
 obtain ⟨d,S1,e1,e⟩:=ab e
 cases d with
 | tup ds=>
  cases e
  refine .inr ⟨m,ρ,S,_,_,E,Rl,e1,fun m1 H1 v A1 vd=>?_⟩
  obtain ⟨a,vs,rfl,sq,vds⟩:=vd.tups
  exact ⟨a,rfl,⟨vs,.of sq⟩,q m1 H1 _ A1 (A9 A1.rel (hB.ext A1.ext) sq vds)⟩
 | ref n=>
  dsimp only at e
  split at e
  ·rename_i hs
   cases e
   refine .inl ⟨m,ρ,S,_,_,E,Rl,e1,fun m1 H1 v A1 vd=>?_⟩
   obtain ⟨a,ha,rfl⟩:=vd.refs
   obtain ⟨ds,hds⟩:=Option.isSome_iff_exists.mp hs
   obtain ⟨vs,sq,vds⟩:=cY ha (List.prefix_refl _) A1.rel hds
   refine ⟨a,rfl,⟨vs,sq⟩,q m1 H1 _ A1 (qa fun m2 S2 H2 i o x2 R2 e2=>?_)⟩
   unfold nxS at e2
   cases h2:aj S2 n with
   | none=>rw [h2] at e2;cases e2
   | some es=>
    rw [h2] at e2
    cases e2
    obtain ⟨ws,sq2,vd2⟩:=cY ha x2.pre R2 h2
    exact ⟨es,ws,rfl,sq2,vd2⟩
  ·cases e
 | _=>cases e
theorem Ma {x:XA} {σ:L2.St} {H:Hp} {R:It->Hp->Prop} (h:tIt K B (xIT x) σ H R):wJ K (eI K x) σ H R:=by
 obtain ⟨m,ρ,S,nx,S',E,Rl,hB,e,q⟩:=h
 obtain ⟨ds,S1,e1,e⟩:=ab e
 cases e
 refine ⟨m,ρ,S,_,_,E,Rl,e1,fun m1 H1 a vs A1 sq n1 n2 n3 vd=>⟨a,rfl,⟨vs,.of sq⟩,q m1 H1 _ A1 (qa fun m2 S2 H2 i o x2 R2 e2=>?_)⟩⟩
 cases e2
 exact ⟨ds,vs,rfl,.of (x2.keep _ _ sq n1 (JQ hB n3)),vd.monoB A1.rel (hB.ext A1.ext) x2⟩
theorem JR {x:XE} {σ:L2.St} {H:Hp} {R:It->Hp->Prop} (h:tIt K B (xEV x) σ H R):E9 K (cB (tE K x) jP) σ H R\/JG K (cB (tE K x) jP) σ H R:=by
 obtain ⟨m,ρ,S,nx,S',E,Rl,hB,e,q⟩:=h
 obtain ⟨d,S1,e1,e⟩:=ab e
 cases d with
 | tup ds=>
  cases e
  refine .inr ⟨m,ρ,S,_,_,E,Rl,e1,fun m1 H1 v A1 vd=>?_⟩
  obtain ⟨a,vs,rfl,sq,vds⟩:=vd.tups
  refine ⟨a,vs,rfl,.of sq,q m1 H1 _ A1 (ot fun m2 S2 H2 i o x2 R2 e2=>⟨ds,vs,e2,.of (A8 A1.rel (hB.ext A1.ext) x2 sq),vds.monoB A1.rel (hB.ext A1.ext) x2⟩)⟩
 | ref n=>
  dsimp only at e
  split at e
  ·rename_i hs
   cases e
   refine .inl ⟨m,ρ,S,_,_,E,Rl,e1,fun m1 H1 v A1 vd=>?_⟩
   obtain ⟨a,ha,rfl⟩:=vd.refs
   obtain ⟨ds,hds⟩:=Option.isSome_iff_exists.mp hs
   obtain ⟨vs,sq,vds⟩:=cY ha (List.prefix_refl _) A1.rel hds
   refine ⟨a,vs,rfl,sq,q m1 H1 _ A1 (ot fun m2 S2 H2 i o x2 R2 e2=>?_)⟩
   unfold xR at e2
   cases h2:aj S2 n with
   | none=>rw [h2] at e2;cases e2
   | some es=>
    rw [h2] at e2
    obtain ⟨ws,sq2,vd2⟩:=cY ha x2.pre R2 h2
    exact ⟨es,ws,e2,sq2,vd2⟩
  ·cases e
 | _=>cases e
theorem JS {x:XA} {σ:L2.St} {H:Hp} {R:It->Hp->Prop} (h:tIt K B (xET x) σ H R):E9 K (cB (eI K x) jP) σ H R:=by
 obtain ⟨m,ρ,S,nx,S',E,Rl,hB,e,q⟩:=h
 obtain ⟨ds,S1,e1,e⟩:=ab e
 cases e
 exact ⟨m,ρ,S,_,_,E,Rl,e1,fun m1 H1 a vs A1 sq n1 n2 n3 vd=>⟨a,vs,rfl,.of sq,q m1 H1 _ A1 (ot fun m2 S2 H2 i o x2 R2 e2=>⟨ds,vs,e2,.of (x2.keep _ _ sq n1 (JQ hB n3)),vd.monoB A1.rel (hB.ext A1.ext) x2⟩)⟩⟩
theorem JT {x:XE} {σ:L2.St} {H:Hp} {R:It->Hp->Prop} (h:tIt K B (xR1 x) σ H R):DE (cB (tE K x) jP) σ H R:=by
 obtain ⟨m,ρ,S,nx,S',E,Rl,hB,e,q⟩:=h
 obtain ⟨d,S1,e1,e⟩:=ab e
 refine ⟨m,ρ,S,d,S1,E,Rl,e1,fun m1 H1 v A1 vd=>?_⟩
 cases d with
 | int j=>
  dsimp only at e
  split at e
  ·rename_i hl
   cases e
   exact ⟨j,by rw [vd.ints],(jb hl).1,(jb hl).2,q m1 H1 _ A1 tL⟩
  ·cases e
 | _=>cases e
theorem JU {x y:XE} {σ:L2.St} {H:Hp} {R:It->Hp->Prop} (h:tIt K B (xR2 x y) σ H R):DF (cB (tE K x) (cB (tE K y) jP)) σ H R:=by
 obtain ⟨m,ρ,S,nx,S',E,Rl,hB,e,q⟩:=h
 obtain ⟨d,S1,e1,e⟩:=ab e
 obtain ⟨c,S2,e2,e⟩:=ab e
 refine ⟨m,ρ,S,d,S1,E,Rl,e1,fun m1 H1 v A1 vd=>⟨m1,ρ,S1,c,S2,E.mono Rl A1.ext,A1.rel,e2,fun m2 H2 w A2 vc=>?_⟩⟩
 cases d with
 | int i=>
  cases c with
  | int j=>
   dsimp only at e
   split at e
   ·rename_i hl
    cases e
    exact ⟨i,j,by rw [vd.ints,vc.ints],⟨(jb hl.1).1,(jb hl.1).2,(jb hl.2).1,(jb hl.2).2⟩,q m2 H2 _ (A1.trans A2) tL⟩
   ·cases e
  | _=>cases e
 | _=>cases e
inductive Tg where
 | name (i:Nat) | tup (ts:List Tg)
mutual
noncomputable def ao:Tg->D->Rho->Option Rho
 | .name i,d,ρ=>if i < ρ.length then some (ρ.set i (some d)) else none
 | .tup ts,.tup ds,ρ=>aF ts ds ρ
 | _,_,_=>none
noncomputable def aF:List Tg->List D->Rho->Option Rho
 | [],[],ρ=>some ρ
 | t::ts,d::ds,ρ=>match ao t d ρ with
  | some ρ'=>aF ts ds ρ'
  | none=>none
 | _,_,_=>none
end
noncomputable def tTg (K:PySem.W.Frag) (t:Tg):TG:=fun x σ H Q=>∃ m S ρ d ρ',Rel K m S H/\EnvR K m H ρ σ/\VD K m H d x/\ao t d ρ=some ρ'/\∀ σ',EnvR K m H ρ' σ'->Q σ' H
noncomputable def xS (K:PySem.W.Frag) (ts:List Tg):TGs:=fun xs σ H Q=>∃ m S ρ ds ρ',Rel K m S H/\EnvR K m H ρ σ/\VDs K m H ds xs/\aF ts ds ρ=some ρ'/\∀ σ',EnvR K m H ρ' σ'->Q σ' H
theorem EnvR.set {ρ:Rho} {σ:L2.St} {i:Nat} {d:D} {v:V} (E:EnvR K m H ρ σ) (h:VD K m H d v):EnvR K m H (ρ.set i (some d)) (σ.set i (some v)):=by
 refine ⟨by simp [E.len],fun j d' e=>?_⟩
 rw [List.getElem?_set] at e
 rw [List.getElem?_set,<-E.len]
 by_cases hj:i=j
 ·rw [if_pos hj] at e ⊢
  split at e
  ·rename_i hl
   rw [if_pos hl]
   cases e
   exact ⟨v,rfl,h⟩
  ·cases e
 ·rw [if_neg hj] at e ⊢
  exact E.at_ j d' e
theorem ou {i:Nat} {x:V} {σ:L2.St} {H:Hp} {Q:L2.St->Hp->Prop} (h:tTg K (.name i) x σ H Q):pC i x σ H Q:=by
 obtain ⟨m,S,ρ,d,ρ',R,E,vd,e,q⟩:=h
 simp only [ao] at e
 split at e
 ·cases e;exact q _ (E.set vd)
 ·cases e
theorem FD {ts:List Tg} {n:Nat} {x:V} {σ:L2.St} {H:Hp} {Q:L2.St->Hp->Prop} (hn:n=ts.length) (h:tTg K (.tup ts) x σ H Q):Ji K n (xS K ts) x σ H Q:=by
 obtain ⟨m,S,ρ,d,ρ',R,E,vd,e,q⟩:=h
 cases d with
 | tup ds=>
  simp only [ao] at e
  obtain ⟨a,vs,rfl,sq,vds⟩:=vd.tups
  refine ⟨a,vs,rfl,.of sq,?_,m,S,ρ,ds,ρ',R,E,vds,e,q⟩
  have len:∀ (ts:List Tg) (ds:List D) (ρ ρ':Rho),aF ts ds ρ=some ρ'->ts.length=ds.length:=by
   intro ts
   induction ts with
   | nil=>intro ds ρ ρ' e;cases ds with | nil=>rfl | cons _ _=>simp [aF] at e
   | cons t ts ih=>
    intro ds ρ ρ' e
    cases ds with
    | nil=>simp [aF] at e
    | cons d ds=>
     simp only [aF] at e
     split at e
     ·simp [ih _ _ _ e]
     ·cases e
  rw [hn,<-vds.length]
  exact (len _ _ _ _ e).symm
 | _=>simp [ao] at e
theorem Ba {xs:List V} {σ:L2.St} {H:Hp} {Q:L2.St->Hp->Prop} (h:xS K [] xs σ H Q):Jh xs σ H Q:=by
 obtain ⟨m,S,ρ,ds,ρ',R,E,vd,e,q⟩:=h
 cases ds with
 | nil=>simp [aF] at e;subst e;rw [VDs] at vd;exact ⟨vd,q _ E⟩
 | cons _ _=>simp [aF] at e
theorem xT {t:Tg} {ts:List Tg} {xs:List V} {σ:L2.St} {H:Hp} {Q:L2.St->Hp->Prop} (h:xS K (t::ts) xs σ H Q):DD (tTg K t) (xS K ts) xs σ H Q:=by
 obtain ⟨m,S,ρ,ds,ρ',R,E,vd,e,q⟩:=h
 cases ds with
 | nil=>simp [aF] at e
 | cons d ds=>
  simp only [aF] at e
  rw [VDs] at vd
  obtain ⟨y,r,rfl,p,p'⟩:=vd
  cases hb:ao t d ρ with
  | none=>rw [hb] at e;cases e
  | some ρ1=>
   rw [hb] at e
   exact ⟨y,r,rfl,m,S,ρ,d,ρ1,R,E,p,hb,fun σ' E'=>⟨m,S,ρ1,ds,ρ',R,E',p',e,q⟩⟩
theorem PG.imp {e:Expr} {t t':TG} (h:PG X e t) (f:∀ x σ H Q,t' x σ H Q->t x σ H Q):PG X e t':=fun pins s σ H v u Q I r q=>h pins s σ H v u Q I r (f v σ H Q q)
theorem PGs.imp {es:List Expr} {t t':TGs} (h:PGs X es t) (f:∀ x σ H Q,t' x σ H Q->t x σ H Q):PGs X es t':=fun pins s σ H v u Q I r q=>h pins s σ H v u Q I r (f v σ H Q q)
end
end Ev
namespace L2
open PySem PySem.Spec PyProof.Rows
noncomputable def Itz (K:PySem.W.Frag) (a b:Addr):It:=
 ⟨fun i H=>∃ xs ys x y,SqL K H a xs/\SqL K H b ys/\xs[i]?=some x/\ys[i]?=some y,
   fun i H v H'=>∃ T,H T=none/\v = .ref T/\∀ xs ys x y,SqL K H a xs->SqL K H b ys->xs[i]?=some x->ys[i]?=some y->H'=upd H T (.tup [x,y]),
   fun i H=>∃ xs ys,SqL K H a xs/\SqL K H b ys/\(xs[i]?=none\/ys[i]?=none)⟩
structure ZipSt (a b z TI TO i1 i2:Addr) (i:Nat) (h:Heap):Prop where
 z:IsZip h z TI TO .none
 ti:IsPair h TI (.ref i1) (.ref i2)
 to:∃ x y,IsPair h TO x y
 h1:h.IsListIter i1 a i
 h2:h.IsListIter i2 b i
structure ZipFive (z TI TO i1 i2:Addr):Prop where
 TIz:TI ≠ z
 TOz:TO ≠ z
 i1z:i1 ≠ z
 i2z:i2 ≠ z
 TITO:TI ≠ TO
 TIi1:TI ≠ i1
 TIi2:TI ≠ i2
 TOi1:TO ≠ i1
 TOi2:TO ≠ i2
 i12:i1 ≠ i2
theorem cZ {h:Heap} {l c:Addr} {xs:Array Value} {o:Obj} (hl:h.IsList l xs) (hc:h.get? c=some o) (n:o.cls ≠ .type "list"):l ≠ c:=fun z=>by
 subst z
 obtain ⟨o',ho,hc',_⟩:=hl
 rw [hc] at ho
 cases ho
 exact n hc'
theorem mR {h:Heap} {a b z TI TO i1 i2:Addr} {i:Nat} {xs ys:Array Value} (D:ZipFive z TI TO i1 i2) (st:ZipSt a b z TI TO i1 i2 i h) (ha:h.IsList a xs) (hb:h.IsList b ys):ZipApart z TI TO i1 i2 a b:=by
 obtain ⟨x,y,hTO⟩:=st.to
 obtain ⟨o1,e1,c1,_⟩:=id st.h1
 obtain ⟨o2,e2,c2,_⟩:=id st.h2
 have n1:o1.cls ≠ .type "list" := by rw [c1];decide
 have n2:o2.cls ≠ .type "list" := by rw [c2];decide
 have nz:(Value.type "zip") ≠ .type "list" := by decide
 have nt:(Value.type "tuple") ≠ .type "list" := by decide
 exact ⟨D.TIz,D.TOz,D.i1z,D.i2z,D.TITO,D.TIi1,D.TIi2,D.TOi1,D.TOi2,D.i12,cZ ha st.z nz,cZ ha hTO nt,cZ ha e1 n1,cZ ha e2 n2,cZ hb st.z nz,cZ hb hTO nt,cZ hb e1 n1,cZ hb e2 n2⟩
theorem xU {P:Program} {w:World} {K:PySem.W.Frag} {elts:List Expr} {x1:Nat} {tp:Pos} (a b z TI TO i1 i2:Addr) (D:ZipFive z TI TO i1 i2) :
  Turn P w K (.Tuple elts x1 tp) (Itz K a b) [z,TI,TO,i1,i2] z (ZipSt a b z TI TO i1 i2) where
 mem:=by simp
 obj:=fun i h st c hc=>by
  obtain ⟨x,y,hTO⟩:=st.to
  obtain ⟨o1,e1,_,d1⟩:=id st.h1
  obtain ⟨o2,e2,_,d2⟩:=id st.h2
  simp only [List.mem_cons,List.not_mem_nil,or_false] at hc
  rcases hc with rfl | rfl | rfl | rfl | rfl
  ·exact ⟨_,st.z,fun v z=>by have z':Data.fields _=Data.cell v:=z;cases z'⟩
  ·exact ⟨_,st.ti,fun v z=>by have z':Data.seq _ _=Data.cell v:=z;cases z'⟩
  ·exact ⟨_,hTO,fun v z=>by have z':Data.seq _ _=Data.cell v:=z;cases z'⟩
  ·exact ⟨o1,e1,fun v z=>by rw [d1] at z;cases z⟩
  ·exact ⟨o2,e2,fun v z=>by rw [d2] at z;cases z⟩
 keep:=fun i h h' st k=>by
  obtain ⟨x,y,hTO⟩:=st.to
  exact ⟨k z (by simp) _ st.z,k TI (by simp) _ st.ti,⟨x,y,k TO (by simp) _ hTO⟩,st.h1.at fun o e=>k i1 (by simp) o e,st.h2.at fun o e=>k i2 (by simp) o e⟩
 item:=by
  intro X hP hw hK hc i pins s σ H E I hf st hg
  subst hP hw hK
  obtain ⟨xs,ys,x,y,hq1,hq2,hx,hy⟩:=hg
  obtain ⟨its1,rv1,p1,_⟩:=I.list hq1
  obtain ⟨its2,rv2,p2,_⟩:=I.list hq2
  obtain ⟨u1,hu1,ru1⟩:=rv1.get hx
  obtain ⟨u2,hu2,ru2⟩:=rv2.get hy
  have hL1:s.heap.IsList a its1.toArray:=p1.isList
  have hL2:s.heap.IsList b its2.toArray:=p2.isList
  have A:=mR D st hL1 hL2
  obtain ⟨v1,v2,hTO⟩:=id st.to
  refine wpAny_pyNext_zip_item A st.z st.ti hTO st.h1 st.h2 hL1 hL2 (by simpa using hu1) (by simpa using hu2) fun h' a1 a2 a3 a4 a5 a6 a7=>?_
  refine ⟨_,rfl,?_⟩
  refine wpAny_letOwnedTupleGo_zip a1 fun h2 hz2 hs2=>?_
  have lt:∀ {c o},s.heap.get? c=some o->c < s.heap.objs.size:=fun e=>Heap.lt_size e
  have lz:=lt st.z
  have lTI:=lt st.ti
  have lTO:=lt hTO
  have l1:i1 < s.heap.objs.size:=by obtain ⟨_,e,_⟩:=id st.h1;exact lt e
  have l2:i2 < s.heap.objs.size:=by obtain ⟨_,e,_⟩:=id st.h2;exact lt e
  have hT2:IsPair h2 s.heap.objs.size u1 u2:=hs2.extBut _ _ (Nat.ne_of_gt lz) a5
  have fresh:=I.hok.fresh (Nat.le_refl s.heap.objs.size)
  refine ⟨.ref s.heap.objs.size,upd H s.heap.objs.size (.tup [x,y]),?_,rfl,⟨_,fresh,rfl,fun xs' ys' x' y' hq1' hq2' hx' hy'=>?_⟩,⟨hz2,hs2.extBut _ _ D.TIz (a7 _ _ D.TIz D.TITO D.TIi1 D.TIi2 st.ti),⟨_,_,hs2.extBut _ _ D.TOz a2⟩,a3.extBut hs2.extBut D.i1z,a4.extBut hs2.extBut D.i2z⟩,fun c hc=>?_⟩
  ·exact I.turnedLaid (t':=s.toks) hf (fun c ob hc ec=>hs2.extBut _ _ (fun z=>hc (by simp [z])) (a7 c ob (fun z=>hc (by simp [z])) (fun z=>hc (by simp [z])) (fun z=>hc (by simp [z])) (fun z=>hc (by simp [z])) ec)) (Nat.le_refl _)
    ⟨by show 2<=sizeLine;decide,[u1,u2],.cons ru1 (.cons ru2 .nil),⟨_,hT2,rfl,_,rfl,rfl⟩⟩
  ·rw [I.list_inj hq1' hq1,hx] at hx'
   rw [I.list_inj hq2' hq2,hy] at hy'
   cases hx';cases hy';rfl
  ·have:=hf c hc
   simp only [List.mem_cons,List.not_mem_nil,or_false] at hc
   have ne:c ≠ s.heap.objs.size:=by
    rcases hc with h | h | h | h | h <;> rw [h]
    ·exact Nat.ne_of_lt lz
    ·exact Nat.ne_of_lt lTI
    ·exact Nat.ne_of_lt lTO
    ·exact Nat.ne_of_lt l1
    ·exact Nat.ne_of_lt l2
   rw [aC ne];exact this.1
 done:=by
  intro X hP hw hK hc i pins s σ H E I hf st hg
  subst hP hw hK
  obtain ⟨xs,ys,hq1,hq2,he⟩:=hg
  obtain ⟨its1,rv1,p1,_⟩:=I.list hq1
  obtain ⟨its2,rv2,p2,_⟩:=I.list hq2
  have hL1:s.heap.IsList a its1.toArray:=p1.isList
  have hL2:s.heap.IsList b its2.toArray:=p2.isList
  have A:=mR D st hL1 hL2
  obtain ⟨v1,v2,hTO⟩:=id st.to
  have en:its1.toArray[i]?=none\/its2.toArray[i]?=none:=by
   rcases he with he | he
   ·left
    have:=List.getElem?_eq_none_iff.mp he
    rw [Array.getElem?_eq_none_iff,List.size_toArray,<-rv1.length];exact this
   ·right
    have:=List.getElem?_eq_none_iff.mp he
    rw [Array.getElem?_eq_none_iff,List.size_toArray,<-rv2.length];exact this
  refine wpAny_pyNext_zip_end (I.ok.hd hc) A st.z st.ti hTO st.h1 st.h2 hL1 hL2 en fun h' k=>⟨rfl,?_⟩
  exact I.turnedAll (t':=s.toks) hf fun c ob hc q=>k c ob (fun z=>hc (by simp [z])) (fun z=>hc (by simp [z])) (fun z=>hc (by simp [z])) (fun z=>hc (by simp [z])) q
 self:=fun _ _ _ _ _ st h=>wpAny_pyIter_zip st.z h
theorem xV (n:Nat):ZipFive (n+4) (n+2) (n+3) n (n+1):=by
 constructor
 ·exact fun z=>by have z':n+2=n+4:=z;omega
 ·exact fun z=>by have z':n+3=n+4:=z;omega
 ·exact fun z=>by have z':n=n+4:=z;omega
 ·exact fun z=>by have z':n+1=n+4:=z;omega
 ·exact fun z=>by have z':n+2=n+3:=z;omega
 ·exact fun z=>by have z':n+2=n:=z;omega
 ·exact fun z=>by have z':n+2=n+1:=z;omega
 ·exact fun z=>by have z':n+3=n:=z;omega
 ·exact fun z=>by have z':n+3=n+1:=z;omega
 ·exact fun z=>by have z':n=n+1:=z;omega
noncomputable def JV (K:PySem.W.Frag) (ta:TA):TI:=fun σ H R=>ta σ H fun vs H1=>∃ a b xs ys,vs=[.ref a,.ref b]/\SqL K H1 a xs/\SqL K H1 b ys/\R (Itz K a b) H1
theorem FE {X:Cx} {elts:List Expr} {x1:Nat} {tp:Pos} {a b:Expr} {ta:TA} {p pos:Pos} (hg:Gl X "zip") (hm:X.mg "zip" = none) (ha:PA X [a,b] ta) (hs:starEach [a,b] X.env=[(false,eval a X.env),(false,eval b X.env)]) (hs2:starEach [b] X.env=[(false,eval b X.env)]):PI X (.Tuple elts x1 tp) (.Call (.Name "zip" p) [a,b] [] pos) (JV X.K ta):=by
 intro pins s σ H R I h
 refine Call_ (eC I hg hm PyProof.Rows.boot_zip (PyProof.Rows.callWith_type1 (thn (ha pos pins s σ H _ I h) fun us s1 ⟨vs,H1,I1,r1,q1⟩=>?_) (by rw [hs,hs2]) (by rw [hs2];rfl)))
 obtain ⟨l1,l2,xs,ys,e,hl1,hl2,q⟩:=q1
 subst e
 cases r1 with
 | cons r rr=>
  cases rr with
  | cons r' rr=>
   cases rr
   cases r
   cases r'
   obtain ⟨its1,rv1,p1,_⟩:=I1.list hl1
   obtain ⟨its2,rv2,p2,_⟩:=I1.list hl2
   refine call_zip_2 p1.isList p2.isList fun h' z1 z2 z3 z4 z5 hsz hk=>wpAny_pyIter_zip z1 ?_
   have I2:Inv X pins σ H1 { s1 with heap:=h' }:=I1.kept (t':=s1.toks) hk
   have fr:∀ b,s1.heap.objs.size<=b->fA X pins H1 b:=fun b hb=>I1.fpOk hb (I1.hok.fresh hb)
   refine ⟨_,[s1.heap.objs.size+4,s1.heap.objs.size+2,s1.heap.objs.size+3,s1.heap.objs.size,s1.heap.objs.size+1],_,_,H1,rfl,I2,xU l1 l2 _ _ _ _ _ (xV _),⟨z1,z2,⟨_,_,z3⟩,z4,z5⟩,fun b hb=>fr b ?_,q⟩
   ·simp only [List.mem_cons,List.not_mem_nil,or_false] at hb
    rcases hb with h | h | h | h | h <;> rw [h]
    ·exact Nat.le_add_right _ _
    ·exact Nat.le_add_right _ _
    ·exact Nat.le_add_right _ _
    ·exact Nat.le_refl _
    ·exact Nat.le_add_right _ _
end L2
namespace Ev
open PySem PySem.Spec PyProof.Rows L2
noncomputable def zp (xs ys:List D) (i:Nat):Option D:=match xs[i]? with
 | some x=>(match ys[i]? with
  | some y=>some (.tup [x,y])
  | none=>none)
 | none=>none
noncomputable def nxZ (n k:Nat):Nxt:=fun i S=>(aj S n).bind fun xs=>(aj S k).map fun ys=>zp xs ys i
noncomputable def FF (x y:XE):XI:=fun ρ S=>bnd (x ρ S) fun d S1=>bnd (y ρ S1) fun e S2=>match d,e with
 | .ref n,.ref k=>if (aj S2 n).isSome=true/\(aj S2 k).isSome=true then some (nxZ n k,S2) else none
 | _,_=>none
section
variable {X:Cx} {K:PySem.W.Frag} {m B:List Addr} {H:Hp} {S:Sto}
theorem Bb {a b n k:Nat} {m0:List Addr} {H0:Hp} (ha:m0[n]?=some a) (hb:m0[k]?=some b):IOk K B (Itz K a b) (nxZ n k) m0 H0:=by
 intro m S H i x R
 have key:∀ o,nxZ n k i S=some o->∃ xs ys vs ws,o=zp xs ys i/\SqL K H a vs/\VDs K m H xs vs/\SqL K H b ws/\VDs K m H ys ws:=fun o e=>by
  unfold nxZ at e
  cases h1:aj S n with
  | none=>rw [h1] at e;cases e
  | some xs=>
   cases h2:aj S k with
   | none=>rw [h1,h2] at e;cases e
   | some ys=>
    rw [h1,h2] at e
    cases e
    obtain ⟨vs,s1,v1⟩:=cY ha x.pre R h1
    obtain ⟨ws,s2,v2⟩:=cY hb x.pre R h2
    exact ⟨xs,ys,vs,ws,rfl,s1,v1,s2,v2⟩
 refine ⟨fun e=>?_,fun d e=>?_⟩
 ·obtain ⟨xs,ys,vs,ws,e',s1,v1,s2,v2⟩:=key _ e
  refine ⟨vs,ws,s1,s2,?_⟩
  unfold zp at e'
  cases hx:xs[i]? with
  | none=>exact .inl (List.getElem?_eq_none_iff.mpr (by rw [<-v1.length];exact List.getElem?_eq_none_iff.mp hx))
  | some x=>
   cases hy:ys[i]? with
   | none=>exact .inr (List.getElem?_eq_none_iff.mpr (by rw [<-v2.length];exact List.getElem?_eq_none_iff.mp hy))
   | some y=>rw [hx,hy] at e';cases e'
 ·obtain ⟨xs,ys,vs,ws,e',s1,v1,s2,v2⟩:=key _ e
  unfold zp at e'
  cases hx:xs[i]? with
  | none=>rw [hx] at e';cases e'
  | some x'=>
   cases hy:ys[i]? with
   | none=>rw [hx,hy] at e';cases e'
   | some y'=>
    rw [hx,hy] at e'
    cases e'
    obtain ⟨u,hu,vu⟩:=v1.get hx
    obtain ⟨w,hw,vw⟩:=v2.get hy
    refine ⟨⟨vs,ws,u,w,s1,s2,hu,hw⟩,fun y H' ⟨T,hT,ey,hyy⟩=>?_⟩
    subst ey
    have eH:=hyy vs ws u w s1 s2 hu hw
    subst eH
    have xb:=Ext.beside R hT (.tup [u,w])
    exact ⟨⟨xb,R.beside hT _⟩,kD bf (.cons (vu.mono R xb) (.cons (vw.mono R xb) .nil))⟩
theorem FG {x y:XE} {σ:L2.St} {H:Hp} {R:It->Hp->Prop} (h:tIt K B (FF x y) σ H R):JV K (cB (tE K x) (cB (tE K y) jP)) σ H R:=by
 obtain ⟨m,ρ,S,nx,S',E,Rl,hB,e,q⟩:=h
 obtain ⟨d,S1,e1,e⟩:=ab e
 obtain ⟨c,S2,e2,e⟩:=ab e
 refine ⟨m,ρ,S,d,S1,E,Rl,e1,fun m1 H1 v A1 vd=>⟨m1,ρ,S1,c,S2,E.mono Rl A1.ext,A1.rel,e2,fun m2 H2 w A2 vc=>?_⟩⟩
 cases d with
 | ref n=>
  cases c with
  | ref k=>
   dsimp only at e
   split at e
   ·rename_i hl
    cases e
    obtain ⟨a,ha,rfl⟩:=vd.refs
    obtain ⟨b,hb,rfl⟩:=vc.refs
    have ha2:=jY A2.ext.pre ha
    obtain ⟨xs,hxs⟩:=Option.isSome_iff_exists.mp hl.1
    obtain ⟨ys,hys⟩:=Option.isSome_iff_exists.mp hl.2
    obtain ⟨vs,s1,_⟩:=cY ha2 (List.prefix_refl _) A2.rel hxs
    obtain ⟨ws,s2,_⟩:=cY hb (List.prefix_refl _) A2.rel hys
    exact ⟨a,b,vs,ws,rfl,s1,s2,q m2 H2 _ (A1.trans A2) (Bb ha2 hb)⟩
   ·cases e
  | _=>cases e
 | _=>cases e
end
end Ev
namespace Ev
open PySem PySem.Spec PyProof.Rows L2
inductive Fl where
 | nx | bk | ct | rt (d:D)
noncomputable abbrev XS:=Rho->Sto->Option (Fl × Rho × Sto)
noncomputable def tM (K:PySem.W.Frag) (m:List Addr) (H:Hp) (fl:Fl) (ρ:Rho) (D:Ends):Prop:=match fl with
 | .nx=>∀ σ,EnvR K m H ρ σ->D.nx σ H
 | .bk=>∀ σ,EnvR K m H ρ σ->D.bk σ H
 | .ct=>∀ σ,EnvR K m H ρ σ->D.ct σ H
 | .rt d=>∀ v,VD K m H d v->D.rt v H
noncomputable def tSt (K:PySem.W.Frag) (x:XS):TS:=fun D σ H=>∃ m ρ S fl ρ' S',EnvR K m H ρ σ/\Rel K m S H/\x ρ S=some (fl,ρ',S')/\∀ m' H',Aft K m H S' m' H'->tM K m' H' fl ρ' D
section
variable {X:Cx} {K:PySem.W.Frag} {m:List Addr} {H:Hp} {S:Sto}
noncomputable def xW (x y:XS):XS:=fun ρ S=>match x ρ S with
 | none=>none
 | some (.nx,ρ1,S1)=>y ρ1 S1
 | some r=>some r
noncomputable def DQ:XS:=fun ρ S=>some (.nx,ρ,S)
theorem Bc {D:Ends} {σ:L2.St} {H:Hp} (h:tSt K DQ D σ H):DA D σ H:=by
 obtain ⟨m,ρ,S,fl,ρ',S',E,R,e,q⟩:=h
 cases e
 exact q m H (Aft.refl R) σ E
theorem FH {x y:XS} {D:Ends} {σ:L2.St} {H:Hp} (h:tSt K (xW x y) D σ H):Jd (tSt K x) (tSt K y) D σ H:=by
 obtain ⟨m,ρ,S,fl,ρ',S',E,R,e,q⟩:=h
 unfold xW at e
 cases hx:x ρ S with
 | none=>rw [hx] at e;cases e
 | some r=>
  obtain ⟨f1,ρ1,S1⟩:=r
  rw [hx] at e
  refine ⟨m,ρ,S,f1,ρ1,S1,E,R,hx,fun m1 H1 A1=>?_⟩
  cases f1 with
  | nx=>exact fun σ1 E1=>⟨m1,ρ1,S1,fl,ρ',S',E1,A1.rel,e,fun m2 H2 A2=>q m2 H2 (A1.trans A2)⟩
  | bk=>cases e;exact q m1 H1 A1
  | ct=>cases e;exact q m1 H1 A1
  | rt d=>cases e;exact q m1 H1 A1
noncomputable def qb (x:XE):XS:=fun ρ S=>match x ρ S with
 | none=>none
 | some (_,S1)=>some (.nx,ρ,S1)
noncomputable def xX (x:XE):XS:=fun ρ S=>match x ρ S with
 | none=>none
 | some (d,S1)=>some (.rt d,ρ,S1)
noncomputable def JW:XS:=fun ρ S=>some (.ct,ρ,S)
theorem Bd {x:XE} {D:Ends} {σ:L2.St} {H:Hp} (h:tSt K (qb x) D σ H):DC (tE K x) D σ H:=by
 obtain ⟨m,ρ,S,fl,ρ',S',E,R,e,q⟩:=h
 unfold qb at e
 cases hx:x ρ S with
 | none=>rw [hx] at e;cases e
 | some r=>
  obtain ⟨d,S1⟩:=r
  rw [hx] at e
  cases e
  exact ⟨m,ρ,S,d,_,E,R,hx,fun m1 H1 v A1 _=>q m1 H1 A1 σ (E.mono R A1.ext)⟩
theorem FI {x:XE} {D:Ends} {σ:L2.St} {H:Hp} (h:tSt K (xX x) D σ H):Je (tE K x) D σ H:=by
 obtain ⟨m,ρ,S,fl,ρ',S',E,R,e,q⟩:=h
 unfold xX at e
 cases hx:x ρ S with
 | none=>rw [hx] at e;cases e
 | some r=>
  obtain ⟨d,S1⟩:=r
  rw [hx] at e
  cases e
  exact ⟨m,ρ,S,d,_,E,R,hx,fun m1 H1 v A1 vd=>q m1 H1 A1 v vd⟩
theorem FJ {D:Ends} {σ:L2.St} {H:Hp} (h:tSt K JW D σ H):DB D σ H:=by
 obtain ⟨m,ρ,S,fl,ρ',S',E,R,e,q⟩:=h
 cases e
 exact q m H (Aft.refl R) σ E
noncomputable def xIf (c:XT) (x y:XS):XS:=fun ρ S=>match c ρ S with
 | none=>none
 | some (b,S1)=>if b=true then x ρ S1 else y ρ S1
theorem JX {c:XT} {x y:XS} {D:Ends} {σ:L2.St} {H:Hp} (h:tSt K (xIf c x y) D σ H):Jf (tT K c) (tSt K x) (tSt K y) D σ H:=by
 obtain ⟨m,ρ,S,fl,ρ',S',E,R,e,q⟩:=h
 unfold xIf at e
 cases hc:c ρ S with
 | none=>rw [hc] at e;cases e
 | some r=>
  obtain ⟨b,S1⟩:=r
  rw [hc] at e
  dsimp only at e
  refine ⟨m,ρ,S,b,S1,E,R,hc,fun m1 H1 A1=>?_⟩
  dsimp only
  split
  ·rename_i hb
   rw [if_pos hb] at e
   exact ⟨m1,ρ,S1,fl,ρ',S',E.mono R A1.ext,A1.rel,e,fun m2 H2 A2=>q m2 H2 (A1.trans A2)⟩
  ·rename_i hb
   rw [if_neg hb] at e
   exact ⟨m1,ρ,S1,fl,ρ',S',E.mono R A1.ext,A1.rel,e,fun m2 H2 A2=>q m2 H2 (A1.trans A2)⟩
noncomputable def kS (x:XE) (t:Tg):XS:=fun ρ S=>match x ρ S with
 | none=>none
 | some (d,S1)=>(ao t d ρ).map fun ρ1=>(.nx,ρ1,S1)
theorem sh {x:XE} {t:Tg} {D:Ends} {σ:L2.St} {H:Hp} (h:tSt K (kS x t) D σ H):wD (tE K x) (tTg K t) D σ H:=by
 obtain ⟨m,ρ,S,fl,ρ',S',E,R,e,q⟩:=h
 unfold kS at e
 cases hx:x ρ S with
 | none=>rw [hx] at e;cases e
 | some r=>
  obtain ⟨d,S1⟩:=r
  rw [hx] at e
  dsimp only at e
  cases hb:ao t d ρ with
  | none=>rw [hb] at e;cases e
  | some ρ1=>
   rw [hb] at e
   cases e
   exact ⟨m,ρ,S,d,_,E,R,hx,fun m1 H1 v A1 vd=>⟨m1,_,ρ,d,_,A1.rel,E.mono R A1.ext,vd,hb,fun σ' E'=>q m1 H1 A1 σ' E'⟩⟩
noncomputable def qc (v o i:XE):XS:=fun ρ S=>match v ρ S with
 | none=>none
 | some (dv,S1)=>match o ρ S1 with
  | none=>none
  | some (d_o,S2)=>match i ρ S2 with
   | none=>none
   | some (di,S3)=>(kQ d_o di dv S3).map fun S4=>(.nx,ρ,S4)
theorem Be {v o i:XE} {D:Ends} {σ:L2.St} {H:Hp} (h:tSt K (qc v o i) D σ H):wD (tE K v) (Jj (tE K o) (tE K i) (JO K)) D σ H:=by
 obtain ⟨m,ρ,S,fl,ρ',S',E,R,e,q⟩:=h
 unfold qc at e
 cases h1:v ρ S with
 | none=>rw [h1] at e;cases e
 | some r1=>
  obtain ⟨dv,S1⟩:=r1
  rw [h1] at e
  dsimp only at e
  cases h2:o ρ S1 with
  | none=>rw [h2] at e;cases e
  | some r2=>
   obtain ⟨d2,S2⟩:=r2
   rw [h2] at e
   dsimp only at e
   cases h3:i ρ S2 with
   | none=>rw [h3] at e;cases e
   | some r3=>
    obtain ⟨d3,S3⟩:=r3
    rw [h3] at e
    dsimp only at e
    cases h4:kQ d2 d3 dv S3 with
    | none=>rw [h4] at e;cases e
    | some S4=>
     rw [h4] at e
     cases e
     refine ⟨m,ρ,S,dv,S1,E,R,h1,fun m1 H1 v1 A1 vd1=>⟨m1,ρ,S1,d2,S2,E.mono R A1.ext,A1.rel,h2,fun m2 H2 v2 A2 vd2=>⟨m2,ρ,S2,d3,S3,E.mono R (A1.trans A2).ext,A2.rel,h3,fun m3 H3 v3 A3 vd3=>?_⟩⟩⟩
     exact ⟨m3,S3,d2,d3,dv,_,A3.rel,vd2.mono A2.rel A3.ext,vd3,vd1.mono A1.rel (A2.trans A3).ext,h4,fun m4 H4 A4=>q m4 H4 (((A1.trans A2).trans A3).trans A4) σ (E.mono R (((A1.trans A2).trans A3).trans A4).ext)⟩
noncomputable def dX (nx:Nxt) (tg:Tg) (b:XS):Nat->Nat->XS
 | 0,_=>fun _ _=>none
 | k+1,i=>fun ρ S=>match nx i S with
  | none=>none
  | some none=>some (.nx,ρ,S)
  | some (some d)=>match ao tg d ρ with
   | none=>none
   | some ρ1=>match b ρ1 S with
    | none=>none
    | some (.nx,ρ2,S2)=>dX nx tg b k (i+1) ρ2 S2
    | some (.ct,ρ2,S2)=>dX nx tg b k (i+1) ρ2 S2
    | some (.bk,ρ2,S2)=>some (.nx,ρ2,S2)
    | some (.rt d,ρ2,S2)=>some (.rt d,ρ2,S2)
noncomputable def xY (it:XI) (tg:Tg) (b:XS) (k:Nat):XS:=fun ρ S=>match it ρ S with
 | none=>none
 | some (nx,S1)=>dX nx tg b k 0 ρ S1
theorem Bf {nx:Nxt} {tg:Tg} {b:XS} {J:It} {m1:List Addr} {H1:Hp} {D:Ends} (hI:IOk K [] J nx m1 H1) (k:Nat) {m:List Addr} {ρ:Rho} {S:Sto} {σ:L2.St} {H:Hp} {fl:Fl} {ρ':Rho} {S':Sto} (E:EnvR K m H ρ σ) (R:Rel K m S H) (x:Ext m1 H1 m H) (e:dX nx tg b k 0 ρ S=some (fl,ρ',S')) (q:∀ m' H',Aft K m H S' m' H'->tM K m' H' fl ρ' D) :
  ∃ W:Nat->Nat->L2.St->Hp->Prop,(∃ m,W 0 m σ H)/\∀ i m σ H,W i m σ H ->
   (J.stop i H/\D.nx σ H)\/(J.go i H/\∃ N:L2.St->Hp->Prop,(∀ σ' H',N σ' H'->∃ m',m' < m/\W (i+1) m' σ' H')/\∀ x H',J.yld i H x H'->tTg K tg x σ H' fun σ2 H2=>tSt K b { D with nx:=N,ct:=N,bk:=D.nx } σ2 H2):=by
 refine ⟨fun i k σ H=>∃ m ρ S fl ρ' S',EnvR K m H ρ σ/\Rel K m S H/\Ext m1 H1 m H/\dX nx tg b k i ρ S=some (fl,ρ',S')/\∀ m' H',Aft K m H S' m' H'->tM K m' H' fl ρ' D,⟨k,m,ρ,S,fl,ρ',S',E,R,x,e,q⟩,?_⟩
 intro i k σ H ⟨m,ρ,S,fl,ρ',S',E,R,x,e,q⟩
 cases k with
 | zero=>simp [dX] at e
 | succ k=>
  simp only [dX] at e
  cases hn:nx i S with
  | none=>rw [hn] at e;cases e
  | some o=>
   rw [hn] at e
   obtain ⟨h1,h2⟩:=hI m S H i (x.toB fun b hb=>absurd hb (by simp)) R
   cases o with
   | none=>cases e;exact .inl ⟨h1 hn,q m H (Aft.refl R) σ E⟩
   | some d=>
    obtain ⟨go,hy⟩:=h2 d hn
    dsimp only at e
    cases hb:ao tg d ρ with
    | none=>rw [hb] at e;cases e
    | some ρ1=>
     rw [hb] at e
     dsimp only at e
     cases hx:b ρ1 S with
     | none=>rw [hx] at e;cases e
     | some r=>
      obtain ⟨f2,ρ2,S2⟩:=r
      rw [hx] at e
      refine .inr ⟨go,fun σ' H'=>∃ m ρ S fl ρ' S',EnvR K m H' ρ σ'/\Rel K m S H'/\Ext m1 H1 m H'/\dX nx tg b k (i+1) ρ S=some (fl,ρ',S')/\∀ m' H'',Aft K m H' S' m' H''->tM K m' H'' fl ρ' D,fun σ' H' z=>⟨k,Nat.lt_succ_self k,z⟩,fun y H' yl=>?_⟩
      obtain ⟨A,vd⟩:=hy y H' yl
      refine ⟨m,S,ρ,d,ρ1,A.rel,E.mono R A.ext,vd,hb,fun σ2 E2=>⟨m,ρ1,S,f2,ρ2,S2,E2,A.rel,hx,fun m3 H3 A3=>?_⟩⟩
      cases f2 with
      | nx=>exact fun σ3 E3=>⟨m3,ρ2,S2,fl,ρ',S',E3,A3.rel,(x.trans A.ext).trans A3.ext,e,fun m4 H4 A4=>q m4 H4 ((A.trans A3).trans A4)⟩
      | ct=>exact fun σ3 E3=>⟨m3,ρ2,S2,fl,ρ',S',E3,A3.rel,(x.trans A.ext).trans A3.ext,e,fun m4 H4 A4=>q m4 H4 ((A.trans A3).trans A4)⟩
      | bk=>cases e;exact fun σ3 E3=>q m3 H3 (A.trans A3) σ3 E3
      | rt d=>cases e;exact fun v vd=>q m3 H3 (A.trans A3) v vd
theorem FK {it:XI} {tg:Tg} {b:XS} {k:Nat} {D:Ends} {σ:L2.St} {H:Hp} (h:tSt K (xY it tg b k) D σ H):Jm (tIt K [] it) (tTg K tg) (tSt K b) D σ H:=by
 obtain ⟨m,ρ,S,fl,ρ',S',E,R,e,q⟩:=h
 unfold xY at e
 cases hi:it ρ S with
 | none=>rw [hi] at e;cases e
 | some r=>
  obtain ⟨nx,S1⟩:=r
  rw [hi] at e
  exact ⟨m,ρ,S,nx,S1,E,R,fun b hb=>absurd hb (by simp),hi,fun m1 H1 J A1 hI=>Bf hI k (E.mono R A1.ext) A1.rel (Ext.refl _ _) e fun m2 H2 A2=>q m2 H2 (A1.trans A2)⟩
end
end Ev
namespace Ev
open PySem PySem.Spec PyProof.Rows L2
mutual
noncomputable def c9:Tg->Rho->Bool
 | .name i,ρ=>match ρ[i]? with
  | some none=>true
  | _=>false
 | .tup ts,ρ=>fH ts ρ
noncomputable def fH:List Tg->Rho->Bool
 | [],_=>true
 | t::ts,ρ=>c9 t ρ && fH ts ρ
end
structure LeR (ρ ρ':Rho):Prop where
 len:ρ.length=ρ'.length
 at_:∀ (i:Nat) (d:D),ρ[i]?=some (some d)->ρ'[i]?=some (some d)
theorem LeR.refl (ρ:Rho):LeR ρ ρ:=⟨rfl,fun _ _ h=>h⟩
mutual
theorem qd {ρ0:Rho}:∀ {t:Tg} {d:D} {ρ ρ':Rho},LeR ρ0 ρ->c9 t ρ0=true->ao t d ρ=some ρ'->LeR ρ0 ρ'
 | .name i,d,ρ,ρ',l,f,e=>by
  simp only [ao] at e
  split at e
  ·cases e
   refine ⟨by simp [l.len],fun j d' h=>?_⟩
   rw [List.getElem?_set]
   by_cases hj:i=j
   ·subst hj
    simp only [c9] at f
    rw [h] at f
    cases f
   ·rw [if_neg hj];exact l.at_ j d' h
  ·cases e
 | .tup ts,.tup ds,ρ,ρ',l,f,e=>by
  simp only [ao] at e
  simp only [c9] at f
  exact mS l f e
 | .tup ts,.non,_,_,_,_,e=>by simp [ao] at e
 | .tup ts,.bl _,_,_,_,_,e=>by simp [ao] at e
 | .tup ts,.int _,_,_,_,_,e=>by simp [ao] at e
 | .tup ts,.str _,_,_,_,_,e=>by simp [ao] at e
 | .tup ts,.ref _,_,_,_,_,e=>by simp [ao] at e
theorem mS {ρ0:Rho}:∀ {ts:List Tg} {ds:List D} {ρ ρ':Rho},LeR ρ0 ρ->fH ts ρ0=true->aF ts ds ρ=some ρ'->LeR ρ0 ρ'
 | [],[],ρ,ρ',l,_,e=>by simp only [aF] at e;cases e;exact l
 | [],_::_,_,_,_,_,e=>by simp [aF] at e
 | _::_,[],_,_,_,_,e=>by simp [aF] at e
 | t::ts,d::ds,ρ,ρ',l,f,e=>by
  simp only [aF] at e
  simp only [fH,bAE] at f
  cases hb:ao t d ρ with
  | none=>rw [hb] at e;cases e
  | some ρ1=>rw [hb] at e;exact mS (qd l f.1 hb) f.2 e
end
section
variable {X:Cx} {K:PySem.W.Frag} {m:List Addr} {H:Hp} {S:Sto}
theorem EnvR.weaken {ρ ρ':Rho} {σ:L2.St} (E:EnvR K m H ρ' σ) (l:LeR ρ ρ'):EnvR K m H ρ σ:=⟨l.len.trans E.len,fun i d h=>E.at_ i d (l.at_ i d h)⟩
noncomputable def aX (nx:Nxt) (tg:Tg) (c:XA) (ρ:Rho):Nat->Nat->Sto->Option (List D × Sto)
 | 0,_,_=>none
 | k+1,i,S=>match nx i S with
  | none=>none
  | some none=>some ([],S)
  | some (some d)=>match ao tg d ρ with
   | none=>none
   | some ρ1=>bnd (c ρ1 S) fun es S1=>bnd (aX nx tg c ρ k (i+1) S1) fun rs S2=>some (es++rs,S2)
noncomputable def xZ (t:XT) (c:XA):XA:=fun ρ S=>bnd (t ρ S) fun b S1=>if b=true then c ρ S1 else some ([],S1)
noncomputable def DR (x:XE):XA:=fun ρ S=>bnd (x ρ S) fun d S1=>some ([d],S1)
noncomputable def jc (it:XI) (tg:Tg) (c:XA) (k:Nat):XA:=fun ρ S=>if c9 tg ρ=true then bnd (it ρ S) fun nx S1=>aX nx tg c ρ k 0 S1 else none
noncomputable def kT (own:Nat) (it:XI) (tg:Tg) (c:XA) (k:Nat):XA:=fun ρ S=>bnd (it ρ S) fun nx S1=>if c9 tg (ρ++List.replicate own none)=true then
 (bnd (aX nx tg c (ρ++List.replicate own none) k 0 S1) fun es S2=>if es.length<=100000 then some (es,S2) else none) else none
noncomputable def tCl (K:PySem.W.Frag) (acc:Addr) (c:XA):TS:=fun D σ H=>∃ m ρ S es S' zs vs,EnvR K m H ρ σ/\Rel K m S H/\acc ∉ m/\H acc=some (.lst vs)/\VDs K m H zs vs/\zs.length+es.length<=100000/\c ρ S=some (es,S') ∧
 ∀ m' H' σ' vs',ExtB [acc] m H m' H'->Rel K m' S' H'->H' acc=some (.lst vs')->VDs K m' H' (zs++es) vs'->EnvR K m' H' ρ σ'->D.nx σ' H'
theorem x5 {acc:Addr} {vs:List V} (h:H acc=some (.lst vs)) (n:acc ∉ m):AtB [acc] m H:=fun b hb=>by simp at hb;subst hb;exact ⟨⟨vs,h⟩,n⟩
theorem ExtB.refl {acc:Addr} (n:acc ∉ m):ExtB [acc] m H m H:=⟨List.prefix_refl m,fun _ _ h _ _=>h,fun _ h n=>absurd h n,fun b hb=>by simp at hb;subst hb;exact n⟩
theorem ExtB.put {acc:Addr} (n:acc ∉ m) (o:HO):ExtB [acc] m H m (upd H acc o):=⟨List.prefix_refl m,fun a u h _ nb=>by
 rw [aC (fun z=>nb (by simp [z]))];exact h,fun _ h n=>absurd h n,fun b hb=>by simp at hb;subst hb;exact n⟩
theorem Rel.extB {acc:Addr} {H':Hp} (R:Rel K m S H) (hB:AtB [acc] m H) (x:ExtB [acc] m H m H') (k:∀ b ∈ m,H' b=H b):Rel K m S H':=by
 refine ⟨R.len,R.nd,fun i o e=>?_⟩
 obtain ⟨b,hb,r⟩:=R.ob i o e
 have hm:b ∈ m:=List.mem_of_getElem? hb
 refine ⟨b,hb,?_⟩
 cases o with
 | lst ds=>obtain ⟨vs,p,q⟩:=r;exact ⟨vs,(k b hm).trans p,VDs.monoB R hB x q⟩
 | frz ds=>obtain ⟨o,vs,p,q⟩:=r;exact ⟨o,vs,(k b hm).trans p,VDs.monoB R hB x q⟩
 | dic ks ds=>obtain ⟨vs,p,l,q⟩:=r;exact ⟨vs,(k b hm).trans p,l,VDs.monoB R hB x q⟩
theorem Bg {acc:Addr} {x:XE} {D:Ends} {σ:L2.St} {H:Hp} (h:tCl K acc (DR x) D σ H):DK acc (tE K x) D σ H:=by
 obtain ⟨m,ρ,S,es,S',zs,vs,E,R,na,ha,vz,hl,e,q⟩:=h
 obtain ⟨d,S1,e1,e⟩:=ab e
 cases e
 refine ⟨m,ρ,S,d,_,E,R,e1,fun m1 H1 v A1 vd=>?_⟩
 have hB:=x5 ha na
 have ha1:H1 acc=some (.lst vs):=A1.ext.keep _ _ ha na
 have xB:=A1.ext.toB hB
 have na1:acc ∉ m1:=xB.nb acc (by simp)
 have xp:=ExtB.put (H:=H1) na1 (.lst (vs++[v]))
 have hB1:=x5 ha1 na1
 have lz:=vz.length
 simp only [List.length_singleton] at hl
 refine ⟨vs,ha1,by rw [sizeLine_eq];omega,q m1 _ σ (vs++[v]) (xB.trans xp) (A1.rel.extB hB1 xp fun b hb=>aC fun z=>na1 (z ▸ hb)) bf ?_ ((E.mono R A1.ext).monoB A1.rel hB1 xp)⟩
 exact VDs.append ((vz.mono R A1.ext).monoB A1.rel hB1 xp) (.cons (vd.monoB A1.rel hB1 xp) .nil)
theorem Bh {acc:Addr} {t:XT} {c:XA} {D:Ends} {σ:L2.St} {H:Hp} (h:tCl K acc (xZ t c) D σ H):fh (tT K t) (tCl K acc c) D σ H:=by
 obtain ⟨m,ρ,S,es,S',zs,vs,E,R,na,ha,vz,hl,e,q⟩:=h
 obtain ⟨b,S1,e1,e⟩:=ab e
 refine ⟨m,ρ,S,b,S1,E,R,e1,fun m1 H1 A1=>?_⟩
 have hB:=x5 ha na
 have ha1:H1 acc=some (.lst vs):=A1.ext.keep _ _ ha na
 have xB:=A1.ext.toB hB
 have na1:acc ∉ m1:=xB.nb acc (by simp)
 dsimp only
 split
 ·rename_i hb
  rw [if_pos hb] at e
  exact ⟨m1,ρ,S1,es,S',zs,vs,E.mono R A1.ext,A1.rel,na1,ha1,vz.mono R A1.ext,hl,e,fun m2 H2 σ2 vs2 x2 R2 h2 v2 E2=>q m2 H2 σ2 vs2 (xB.trans x2) R2 h2 v2 E2⟩
 ·rename_i hb
  rw [if_neg hb] at e
  cases e
  refine q m1 H1 σ vs xB A1.rel ha1 ?_ (E.mono R A1.ext)
  rw [List.append_nil]
  exact vz.mono R A1.ext
theorem qe {t:TS} {D:Ends} {σ:L2.St} {H:Hp} (h:t D σ H):fh Aw t D σ H:=by
 show if true=true then t D σ H else D.nx σ H
 rw [if_pos rfl];exact h
theorem FL {acc:Addr} {c:XA} {D:Ends} {σ:L2.St} {H:Hp} (h:tCl K acc c D σ H):fh Aw (tCl K acc c) D σ H:=by
 exact qe h
theorem tN {acc:Addr} {nx:Nxt} {tg:Tg} {c:XA} {J:It} {ts:TS} {m1:List Addr} {H1:Hp} {EE:Ends} (hI:IOk K [acc] J nx m1 H1) (hts:∀ D σ H,tCl K acc c D σ H->ts D σ H) (k:Nat) {m:List Addr} {ρ:Rho} {S S':Sto} {es zs:List D} {vs:List V} {σ:L2.St} {H:Hp}
  (fr:c9 tg ρ=true) (E:EnvR K m H ρ σ) (R:Rel K m S H) (x:ExtB [acc] m1 H1 m H) (ha:H acc=some (.lst vs)) (vz:VDs K m H zs vs) (hl:zs.length+es.length<=100000) (e:aX nx tg c ρ k 0 S=some (es,S'))
  (q:∀ m' H' σ' vs',ExtB [acc] m H m' H'->Rel K m' S' H'->H' acc=some (.lst vs')->VDs K m' H' (zs++es) vs'->EnvR K m' H' ρ σ'->EE.nx σ' H'):pF J (tTg K tg) ts EE σ H:=by
 refine ⟨fun i k σ H=>∃ m S S' es zs vs,EnvR K m H ρ σ/\Rel K m S H/\ExtB [acc] m1 H1 m H/\H acc=some (.lst vs)/\VDs K m H zs vs/\zs.length+es.length<=100000/\aX nx tg c ρ k i S=some (es,S') ∧
  ∀ m' H' σ' vs',ExtB [acc] m H m' H'->Rel K m' S' H'->H' acc=some (.lst vs')->VDs K m' H' (zs++es) vs'->EnvR K m' H' ρ σ'->EE.nx σ' H',⟨k,m,S,S',es,zs,vs,E,R,x,ha,vz,hl,e,q⟩,?_⟩
 intro i k σ H ⟨m,S,S',es,zs,vs,E,R,x,ha,vz,hl,e,q⟩
 have na:acc ∉ m:=x.nb acc (by simp)
 have hB:=x5 ha na
 cases k with
 | zero=>simp [aX] at e
 | succ k=>
  simp only [aX] at e
  cases hn:nx i S with
  | none=>rw [hn] at e;cases e
  | some o=>
   rw [hn] at e
   obtain ⟨h1,h2⟩:=hI m S H i x R
   cases o with
   | none=>
    cases e
    exact .inl ⟨h1 hn,q m H σ vs (ExtB.refl na) R ha (by rw [List.append_nil];exact vz) E⟩
   | some d=>
    obtain ⟨go,hy⟩:=h2 d hn
    dsimp only at e
    cases hb:ao tg d ρ with
    | none=>rw [hb] at e;cases e
    | some ρ1=>
     rw [hb] at e
     dsimp only at e
     obtain ⟨e1,S1,c1,e⟩:=ab e
     obtain ⟨rs,S2,c2,e⟩:=ab e
     cases e
     rw [List.length_append] at hl
     refine .inr ⟨go,fun σ' H'=>∃ m S S' es zs vs,EnvR K m H' ρ σ'/\Rel K m S H'/\ExtB [acc] m1 H1 m H'/\H' acc=some (.lst vs)/\VDs K m H' zs vs/\zs.length+es.length<=100000/\aX nx tg c ρ k (i+1) S=some (es,S') ∧
      ∀ m' H'' σ' vs',ExtB [acc] m H' m' H''->Rel K m' S' H''->H'' acc=some (.lst vs')->VDs K m' H'' (zs++es) vs'->EnvR K m' H'' ρ σ'->EE.nx σ' H'',fun σ' H' z=>⟨k,Nat.lt_succ_self k,z⟩,fun y H' yl=>?_⟩
     obtain ⟨A,vd⟩:=hy y H' yl
     have xA:=A.ext.toB hB
     have ha':H' acc=some (.lst vs):=A.ext.keep _ _ ha na
     refine ⟨m,S,ρ,d,ρ1,A.rel,E.mono R A.ext,vd,hb,fun σ2 E2=>hts _ _ _ ⟨m,ρ1,S,e1,S1,zs,vs,E2,A.rel,na,ha',vz.mono R A.ext,by omega,c1,fun m3 H3 σ3 vs3 x3 R3 h3 v3 E3=>?_⟩⟩
     refine ⟨m3,S1,_,rs,zs++e1,vs3,E3.weaken (qd (LeR.refl ρ) fr hb),R3,(x.trans xA).trans x3,h3,v3,by rw [List.length_append];omega,c2,fun m4 H4 σ4 vs4 x4 R4 h4 v4 E4=>?_⟩
     refine q m4 H4 σ4 vs4 ((xA.trans x3).trans x4) R4 h4 ?_ E4
     rw [<-List.append_assoc]
     exact v4
theorem x6 {acc:Addr} {it:XI} {tg:Tg} {t:TT} {c c':XA} {k:Nat} {D:Ends} {σ:L2.St} {H:Hp} (hts:∀ D σ H,tCl K acc c D σ H->fh t (tCl K acc c') D σ H) (h:tCl K acc (jc it tg c k) D σ H):w6 (tIt K [acc] it) (tTg K tg) t (tCl K acc c') D σ H:=by
 obtain ⟨m,ρ,S,es,S',zs,vs,E,R,na,ha,vz,hl,e,q⟩:=h
 unfold jc at e
 split at e
 ·rename_i fr
  obtain ⟨nx,S1,e1,e⟩:=ab e
  have hB:=x5 ha na
  refine ⟨m,ρ,S,nx,S1,E,R,hB,e1,fun m1 H1 J A1 hI=>?_⟩
  have xB:=A1.ext.toB hB
  have na1:acc ∉ m1:=xB.nb acc (by simp)
  exact tN hI hts k fr (E.mono R A1.ext) A1.rel (ExtB.refl na1) (A1.ext.keep _ _ ha na) (vz.mono R A1.ext) hl e fun m2 H2 σ2 vs2 x2 R2 h2 v2 E2=>q m2 H2 σ2 vs2 (xB.trans x2) R2 h2 v2 E2
 ·cases e
theorem EnvR.more {ρ:Rho} {σ:L2.St} (E:EnvR K m H ρ σ) (n:Nat):EnvR K m H (ρ++List.replicate n none) (σ++List.replicate n none):=by
 refine ⟨by simp [E.len],fun i d e=>?_⟩
 by_cases hi:i < ρ.length
 ·rw [List.getElem?_append_left hi] at e
  rw [List.getElem?_append_left (by rw [<-E.len];exact hi)]
  exact E.at_ i d e
 ·rw [List.getElem?_append_right (by omega),List.getElem?_replicate] at e
  split at e <;> cases e
theorem tO {own:Nat} {it:XI} {tg:Tg} {t:TT} {c c':XA} {k:Nat} {σ:L2.St} {H:Hp} {Q:VK} (hts:∀ acc D σ H,tCl K acc c D σ H->fh t (tCl K acc c') D σ H) (h:eI K (kT own it tg c k) σ H Q):w8 own (tIt K [] it) (tTg K tg) (fun acc=>fh t (tCl K acc c')) σ H Q:=by
 obtain ⟨m,ρ,S,es,S',E,R,e,q⟩:=h
 obtain ⟨nx,S1,e1,e⟩:=ab e
 split at e
 ·rename_i fr
  obtain ⟨es',S2,e2,e⟩:=ab e
  split at e
  ·rename_i hl
   cases e
   refine ⟨m,ρ,S,nx,S1,E,R,fun b hb=>absurd hb (by simp),e1,fun m1 H1 J A1 hI acc hacc=>?_⟩
   have x0:=Ext.beside A1.rel hacc (.lst [])
   have R0:=A1.rel.beside hacc (.lst [])
   have na:=A1.rel.no hacc
   have hI':IOk K [acc] J nx m1 (upd H1 acc (.lst [])):=by
    intro m2 S2 H2 i x2 R2
    refine hI m2 S2 H2 i ⟨x2.pre,fun a o h n _=>?_,fun a h n=>?_,fun b hb=>absurd hb (by simp)⟩ R2
    ·have ne:a ≠ acc:=aP h hacc
     exact x2.keep a o (by rw [aC ne];exact h) n (by simp [ne])
    ·have:=x2.new a h n
     by_cases hz:a=acc
     ·subst hz;exact hacc
     ·rw [aC hz] at this;exact this
   refine tN (zs:=[]) (vs:=[]) hI' (hts acc) k fr ((E.mono R A1.ext |>.mono A1.rel x0).more own) R0 (ExtB.refl na) bf .nil (by simpa using hl) e2 fun m2 H2 σ2 vs2 x2 R2 h2 v2 E2=>?_
   have xx:Ext m1 H1 m2 H2:=⟨x2.pre,fun a o h n=>by
    have ne:a ≠ acc:=aP h hacc
    exact x2.keep a o (by rw [aC ne];exact h) n (by simp [ne]),fun a h n=>by
    have:=x2.new a h n
    by_cases hz:a=acc
    ·subst hz;exact hacc
    ·rw [aC hz] at this;exact this⟩
   have hn:H acc=none:=by
    cases eh:H acc with
    | none=>rfl
    | some o=>
     by_cases hm:acc ∈ m
     ·exact absurd (A1.ext.pre.subset hm) na
     ·have:=A1.ext.keep acc o eh hm
      rw [hacc] at this;cases this
   exact q m2 H2 acc vs2 (A1.trans ⟨xx,R2⟩) h2 (x2.nb acc (by simp)) (fun b hb z=>na (A1.ext.pre.subset (z ▸ hb))) hn (by simpa using v2)
  ·cases e
 ·cases e
end
end Ev
namespace Ev
open PySem PySem.Spec PyProof.Rows L2
section
variable {X:Cx} {K:PySem.W.Frag} {m:List Addr} {H:Hp} {S:Sto}
noncomputable def x8 (x y:XE):XE:=fun ρ S=>bnd (x ρ S) fun d S1=>match d with
 | .bl true=>y ρ S1
 | .bl false=>some (.bl false,S1)
 | _=>none
noncomputable def xOr (x y:XE):XE:=fun ρ S=>bnd (x ρ S) fun d S1=>match d with
 | .bl true=>some (.bl true,S1)
 | .bl false=>y ρ S1
 | _=>none
noncomputable def vH:D->Sto->Option (D × Sto)
 | .bl b,S=>some (.bl (!b),S)
 | _,_=>none
noncomputable def FM:D->Sto->Option (D × Sto)
 | .int i,S=>some (.int (-i),S)
 | _,_=>none
theorem x9 {x y:XE} {σ:L2.St} {H:Hp} {Q:VK} (h:tE K (x8 x y) σ H Q):Dx (tE K x) (tE K y) σ H Q:=by
 obtain ⟨m,ρ,S,d,S',E,R,e,q⟩:=h
 obtain ⟨a,S1,e1,e⟩:=ab e
 refine ⟨m,ρ,S,a,S1,E,R,e1,fun m1 H1 v A1 va=>?_⟩
 cases a with
 | bl b=>
  refine ⟨b,va.bls,?_⟩
  cases b with
  | true=>exact ⟨m1,ρ,S1,d,S',E.mono R A1.ext,A1.rel,e,fun m2 H2 w A2 vd=>q m2 H2 w (A1.trans A2) vd⟩
  | false=>cases e;exact q m1 H1 _ A1 bN
 | _=>cases e
theorem DS {x y:XE} {σ:L2.St} {H:Hp} {Q:VK} (h:tE K (xOr x y) σ H Q):Jc (tE K x) (tE K y) σ H Q:=by
 obtain ⟨m,ρ,S,d,S',E,R,e,q⟩:=h
 obtain ⟨a,S1,e1,e⟩:=ab e
 refine ⟨m,ρ,S,a,S1,E,R,e1,fun m1 H1 v A1 va=>?_⟩
 cases a with
 | bl b=>
  refine ⟨b,va.bls,?_⟩
  cases b with
  | false=>exact ⟨m1,ρ,S1,d,S',E.mono R A1.ext,A1.rel,e,fun m2 H2 w A2 vd=>q m2 H2 w (A1.trans A2) vd⟩
  | true=>cases e;exact q m1 H1 _ A1 bN
 | _=>cases e
theorem FN {x:XE} {σ:L2.St} {H:Hp} {Q:VK} (h:tE K (xUn vH x) σ H Q):Dy (tE K x) σ H Q:=by
 obtain ⟨m,ρ,S,d,S',E,R,e,q⟩:=h
 obtain ⟨a,S1,e1,e⟩:=ab e
 refine ⟨m,ρ,S,a,S1,E,R,e1,fun m1 H1 v A1 va=>?_⟩
 cases a with
 | bl b=>cases e;exact ⟨b,va.bls,q m1 H1 _ A1 bN⟩
 | _=>cases e
theorem Bi:UnR X (unaryOp .USub) (rS1 X.K FM):=by
 intro pins s σ H x v Q I rx h
 refine EM pins s σ H x v Q I rx ?_
 obtain ⟨m,S,a,d,S',R,va,e,q⟩:=h
 cases a with
 | int i=>cases e;exact ⟨i,va.ints,q m H _ (Aft.refl R) bm⟩
 | _=>cases e
noncomputable def vI (f g:D->D->Sto->Option (D × Sto)) (x y z:XE):XE:=fun ρ S=>bnd (x ρ S) fun a S1=>bnd (y ρ S1) fun b S2=>bnd (f a b S2) fun r S3=>match r with
 | .bl true=>bnd (z ρ S3) fun c S4=>g b c S4
 | .bl false=>some (.bl false,S3)
 | _=>none
theorem yb {f g:D->D->Sto->Option (D × Sto)} {x y z:XE} {σ:L2.St} {H:Hp} {Q:VK} (h:tE K (vI f g x y z) σ H Q):qX (rS K f) (rS K g) (tE K x) (tE K y) (tE K z) σ H Q:=by
 obtain ⟨m,ρ,S,d,S',E,R,e,q⟩:=h
 obtain ⟨a,S1,e1,e⟩:=ab e
 obtain ⟨b,S2,e2,e⟩:=ab e
 obtain ⟨r,S3,e3,e⟩:=ab e
 refine ⟨m,ρ,S,a,S1,E,R,e1,fun m1 H1 v A1 va=>⟨m1,ρ,S1,b,S2,E.mono R A1.ext,A1.rel,e2,fun m2 H2 w A2 vb=>?_⟩⟩
 refine ⟨m2,S2,a,b,r,S3,A2.rel,va.mono A1.rel A2.ext,vb,e3,fun m3 H3 u A3 vr=>?_⟩
 cases r with
 | bl k=>
  refine ⟨k,vr.bls,?_⟩
  cases k with
  | true=>
   dsimp only at e
   obtain ⟨c,S4,e4,e⟩:=ab e
   exact ⟨m3,ρ,S3,c,S4,E.mono R ((A1.trans A2).trans A3).ext,A3.rel,e4,fun m4 H4 y A4 vc=>⟨m4,S4,b,c,d,S',A4.rel,vb.mono A2.rel (A3.trans A4).ext,vc,e,fun m5 H5 t A5 vd=>q m5 H5 t ((((A1.trans A2).trans A3).trans A4).trans A5) vd⟩⟩
  | false=>cases e;exact q m3 H3 _ ((A1.trans A2).trans A3) bN
 | _=>cases e
noncomputable def yc (x y:XT):XT:=fun ρ S=>bnd (x ρ S) fun b S1=>if b=true then y ρ S1 else some (false,S1)
noncomputable def FO (x y:XT):XT:=fun ρ S=>bnd (x ρ S) fun b S1=>if b=true then some (true,S1) else y ρ S1
noncomputable def yd (x:XT):XT:=fun ρ S=>bnd (x ρ S) fun b S1=>some (!b,S1)
theorem ye {x y:XT} {σ:L2.St} {H:Hp} {Q:Bool->Hp->Prop} (h:tT K (yc x y) σ H Q):Ja (tT K x) (tT K y) σ H Q:=by
 obtain ⟨m,ρ,S,d,S',E,R,e,q⟩:=h
 obtain ⟨b,S1,e1,e⟩:=ab e
 refine ⟨m,ρ,S,b,S1,E,R,e1,fun m1 H1 A1=>?_⟩
 dsimp only
 split
 ·rename_i hb
  rw [if_pos hb] at e
  exact ⟨m1,ρ,S1,d,S',E.mono R A1.ext,A1.rel,e,fun m2 H2 A2=>q m2 H2 (A1.trans A2)⟩
 ·rename_i hb
  rw [if_neg hb] at e
  cases e
  exact q m1 H1 A1
theorem DT {x y:XT} {σ:L2.St} {H:Hp} {Q:Bool->Hp->Prop} (h:tT K (FO x y) σ H Q):tOr (tT K x) (tT K y) σ H Q:=by
 obtain ⟨m,ρ,S,d,S',E,R,e,q⟩:=h
 obtain ⟨b,S1,e1,e⟩:=ab e
 refine ⟨m,ρ,S,b,S1,E,R,e1,fun m1 H1 A1=>?_⟩
 dsimp only
 split
 ·rename_i hb
  rw [if_pos hb] at e
  cases e
  exact q m1 H1 A1
 ·rename_i hb
  rw [if_neg hb] at e
  exact ⟨m1,ρ,S1,d,S',E.mono R A1.ext,A1.rel,e,fun m2 H2 A2=>q m2 H2 (A1.trans A2)⟩
theorem FP {x:XT} {σ:L2.St} {H:Hp} {Q:Bool->Hp->Prop} (h:tT K (yd x) σ H Q):Jb (tT K x) σ H Q:=by
 obtain ⟨m,ρ,S,d,S',E,R,e,q⟩:=h
 obtain ⟨b,S1,e1,e⟩:=ab e
 cases e
 exact ⟨m,ρ,S,b,_,E,R,e1,fun m1 H1 A1=>q m1 H1 A1⟩
noncomputable abbrev Calls:=Nat->List D->Sto->Option (D × Sto)
noncomputable def spC (K:PySem.W.Frag) (g:List D->Sto->Option (D × Sto)) (n:Nat):Sp:=fun vs H Q _=>∃ m ds S d S',VDs K m H ds vs/\Rel K m S H/\ds.length=n/\g ds S=some (d,S')/\∀ m' H' v,Aft K m H S' m' H'->VD K m' H' d v->Q v H'
noncomputable def qf (g:List D->Sto->Option (D × Sto)) (n:Nat) (x:XA):XE:=fun ρ S=>bnd (x ρ S) fun ds S1=>if ds.length=n then g ds S1 else none
theorem Bj {g:List D->Sto->Option (D × Sto)} {n:Nat} {x:XA} {σ:L2.St} {H:Hp} {Q:VK} (h:tE K (qf g n x) σ H Q):DH (spC K g n) [] E0 (tAr K x) σ H Q:=by
 obtain ⟨m,ρ,S,d,S',E,R,e,q⟩:=h
 obtain ⟨ds,S1,e1,e⟩:=ab e
 split at e
 ·rename_i hl
  refine ⟨m,ρ,S,ds,S1,E,R,e1,fun m1 H1 vs A1 vd=>⟨m1,ds,S1,d,S',by rw [List.append_nil];exact vd,A1.rel,hl,e,fun m2 H2 v A2 vv=>q m2 H2 v (A1.trans A2) vv⟩⟩
 ·cases e
end
end Ev
namespace Ev
open PySem PySem.Spec PyProof.Rows L2
mutual
inductive CE where | non | bl (b:Bool) | int (i:Int) | str (x:Str) | var (i:Nat) | con (k:Nat) (v:Int) | tup (es:List CE) | lst (es:List CE) | bin (o:BOp) (a b:CE) | neg (a:CE) | cmp (o:COp) (a b:CE) | chn (o p:COp) (a b c:CE) | and (a b:CE) | or (a b:CE) | not (a:CE) | ix (a b:CE) | sl (a:CE) (lo hi:Option CE) | call (f:Nat) (es:List CE) | inst (t:Ty) (a:CE) | len (a:CE) | all (a:CE) | tupOf (a:CE) | listOf (a:CE) | listR (a:CE) | srt (a:CE) | mxL (a:CE) | mxD (a:CE) (c:Int) | mx (a b:CE) | mn (a b:CE) | comp (own:List Str) (elt:CE) (cls:List Cl) | app (o e:CE) | ext (o e:CE) | popAt (o e:CE) | cnt (o e:CE)
inductive CI where
 | val (a:CE) | r1 (a:CE) | r2 (a b:CE) | en (a:CE) | zp (a b:CE)
inductive Cl where
 | mk (tg:Tg) (it:CI) (cond:Option CE)
end
noncomputable def ai:CE->Bool
 | .lst _=>true | .comp _ _ _=>true | .listOf _=>true | .listR _=>true | .srt _=>true
 | _=>false
noncomputable def LF:Nat:=1000000
noncomputable def xNo {α:Type}:Rho->Sto->Option (α × Sto):=fun _ _=>none
noncomputable def kU (x:XE):XA:=fun ρ S=>bnd (x ρ S) fun d S1=>(ak d S1).map fun r=>(r.2,S1)
noncomputable def cD (tu:Bool) (ds:List D):Option (List D):=if tu=false then rZ tu ds else none
noncomputable def vJ (f:Bool->List D->Option (List D)) (x:XA):XA:=fun ρ S=>bnd (x ρ S) fun ds S1=>(f false ds).map fun es=>(es,S1)
noncomputable def vK (f:Bool->List D->Option (List D)) (x:XE):XA:=fun ρ S=>bnd (x ρ S) fun d S1=>match ak d S1 with
 | some r=>(f r.1 r.2).map fun es=>(es,S1)
 | none=>none
noncomputable def vL (x:XE):XA:=fun ρ S=>bnd (x ρ S) fun d S1=>match d with
 | .int i=>if 0<=i/\i<=1000 then some ((List.range i.toNat).map fun j=>.int (Int.ofNat j),S1) else none
 | _=>none
noncomputable def cnd (t:CE->XT):Option CE->XA->XA
 | some c,x=>xZ (t c) x
 | none,x=>x
noncomputable def opt (t:CE->XE):Option CE->XO
 | some l=>rL (t l)
 | none=>rK
mutual
noncomputable def evE (C:Calls) (ar:Nat->Nat):Nat->CE->XE
 | 0,_=>xNo
 | n+1,e=>match e with
  | .non=>xC .non
  | .bl b=>xC (.bl b)
  | .int i=>xC (.int i)
  | .str x=>xC (.str x)
  | .var i=>vf i
  | .con _ v=>xC (.int v)
  | .tup es=>jS jT (evA C ar n es)
  | .lst es=>dF (mM (evA C ar n es))
  | .bin o a b=>pO (bG o) (evE C ar n a) (evE C ar n b)
  | .neg a=>xUn FM (evE C ar n a)
  | .cmp o a b=>pO (av o) (evE C ar n a) (evE C ar n b)
  | .chn o p a b c=>vI (av o) (av p) (evE C ar n a) (evE C ar n b) (evE C ar n c)
  | .and a b=>x8 (evE C ar n a) (evE C ar n b)
  | .or a b=>xOr (evE C ar n a) (evE C ar n b)
  | .not a=>xUn vH (evE C ar n a)
  | .ix a b=>if ai a=true then rG (cu C ar n a) (evE C ar n b) else pO ixS (evE C ar n a) (evE C ar n b)
  | .sl a lo hi=>xSl (evE C ar n a) (opt (evE C ar n) lo) (opt (evE C ar n) hi)
  | .call f es=>qf (C f) (ar f) (evA C ar n es)
  | .inst t a=>xUn (kI t) (evE C ar n a)
  | .len a=>if ai a=true then pP bx (cu C ar n a) else pQ bx (evE C ar n a)
  | .all a=>if ai a=true then pP mv (cu C ar n a) else pQ mv (evE C ar n a)
  | .tupOf a=>if ai a=true then pP b7 (cu C ar n a) else pQ b7 (evE C ar n a)
  | .listOf a=>dF (if ai a=true then cu C ar n a else kU (evE C ar n a))
  | .listR a=>dF (vL (evE C ar n a))
  | .srt a=>dF (if ai a=true then vJ cD (cu C ar n a) else vK cD (evE C ar n a))
  | .mxL a=>if ai a=true then pP jV (cu C ar n a) else pQ jV (evE C ar n a)
  | .mxD a c=>if ai a=true then pP (gH c) (cu C ar n a) else pQ (gH c) (evE C ar n a)
  | .mx a b=>jS (two xI) (evA C ar n [a,b])
  | .mn a b=>jS (two xJ) (evA C ar n [a,b])
  | .comp own elt cls=>dF (match cls with
   | []=>xNo
   | ⟨tg,it,cond⟩::rest=>kT own.length (evI C ar n it) tg (cnd (evT C ar n) cond (gD C ar n elt rest)) LF)
  | .app o a=>vF dW se (evE C ar n o) (evA C ar n [a])
  | .ext o a=>vF dW sg (evE C ar n o) (evA C ar n [a])
  | .popAt o a=>vF dW eN (evE C ar n o) (evA C ar n [a])
  | .cnt o a=>vF (fun d _=>isTup d) sf (evE C ar n o) (evA C ar n [a])
noncomputable def evA (C:Calls) (ar:Nat->Nat):Nat->List CE->XA
 | 0,_=>xNo
 | n+1,es=>match es with
  | []=>AK
  | e::es=>tG (evE C ar n e) (evA C ar n es)
noncomputable def cu (C:Calls) (ar:Nat->Nat):Nat->CE->XA
 | 0,_=>xNo
 | n+1,e=>match e with
  | .lst es=>mM (evA C ar n es)
  | .listOf a=>if ai a=true then cu C ar n a else kU (evE C ar n a)
  | .listR a=>vL (evE C ar n a)
  | .srt a=>if ai a=true then vJ cD (cu C ar n a) else vK cD (evE C ar n a)
  | .comp own elt cls=>match cls with
   | []=>xNo
   | ⟨tg,it,cond⟩::rest=>kT own.length (evI C ar n it) tg (cnd (evT C ar n) cond (gD C ar n elt rest)) LF
  | _=>xNo
noncomputable def gD (C:Calls) (ar:Nat->Nat):Nat->CE->List Cl->XA
 | 0,_,_=>xNo
 | n+1,elt,cls=>match cls with
  | []=>DR (evE C ar n elt)
  | ⟨tg,it,cond⟩::rest=>jc (evI C ar n it) tg (cnd (evT C ar n) cond (gD C ar n elt rest)) LF
noncomputable def evI (C:Calls) (ar:Nat->Nat):Nat->CI->XI
 | 0,_=>xNo
 | n+1,it=>match it with
  | .val a=>if ai a=true then xIT (cu C ar n a) else xIV (evE C ar n a)
  | .r1 a=>xR1 (evE C ar n a)
  | .r2 a b=>xR2 (evE C ar n a) (evE C ar n b)
  | .zp a b=>FF (evE C ar n a) (evE C ar n b)
  | .en a=>if ai a=true then xET (cu C ar n a) else xEV (evE C ar n a)
noncomputable def evT (C:Calls) (ar:Nat->Nat):Nat->CE->XT
 | 0,_=>xNo
 | n+1,e=>match e with
  | .cmp o a b=>xB (pO (av o) (evE C ar n a) (evE C ar n b))
  | .chn o p a b c=>xB (vI (av o) (av p) (evE C ar n a) (evE C ar n b) (evE C ar n c))
  | .and a b=>yc (evT C ar n a) (evT C ar n b)
  | .or a b=>FO (evT C ar n a) (evT C ar n b)
  | .not a=>yd (evT C ar n a)
  | e=>AV (evE C ar n e)
end
end Ev
namespace Ev
open PySem PySem.Spec PyProof.Rows L2
structure Tab where
 con:List (Str × Int)
 fns:List (Str × Nat)
noncomputable def iC:List Str:=["len", "isinstance", "all", "any", "tuple", "list", "max", "min", "repr", "range", "enumerate", "int", "bool", "str", "sorted", "zip"]
structure Blk where
 sc:Scope
 fs:Option Scope
 N:List Str
noncomputable def Blk.glo (b:Blk) (x:Str):Bool:=b.sc.names.lookup x == some .globalImplicit && !(x == ("__debug__" : Str))
noncomputable def Blk.vis (b:Blk) (x:Str):Bool:=(match b.sc.names.lookup x with
 | some .local=>true
 | some .cell=>true
 | some .free=>true
 | _=>false) && !(x == ("__debug__" : Str)) && !(x == ("__classdict__" : Str))
noncomputable def Blk.own (b:Blk) (x:Str):Bool:=match b.sc.names.lookup x with
 | some .local=>true
 | some .cell=>(match b.fs with
  | none=>true
  | some sc=>sc.names.lookup x == some .cell)
 | _=>false
theorem bU {P:Prop} [Decidable P] {f:P->Bool} (h:(if p:P then f p else false)=true):∃ p,f p=true:=by
 by_cases p:P
 ·rw [dif_pos p] at h;exact ⟨p,h⟩
 ·rw [dif_neg p] at h;cases h
theorem an2 {a b:Bool} (h:(a && b)=true):a=true/\b=true:=by cases a;cases h;exact ⟨rfl,h⟩
theorem an3 {a b c:Bool} (h:(a && b && c)=true):a=true/\b=true/\c=true:=⟨(an2 (an2 h).1).1,(an2 (an2 h).1).2,(an2 h).2⟩
theorem an4 {a b c d:Bool} (h:(a && b && c && d)=true):a=true/\b=true/\c=true/\d=true:=⟨(an3 (an2 h).1).1,(an3 (an2 h).1).2.1,(an3 (an2 h).1).2.2,(an2 h).2⟩
theorem an5 {a b c d e:Bool} (h:(a && b && c && d && e)=true):a=true/\b=true/\c=true/\d=true/\e=true:=⟨(an4 (an2 h).1).1,(an4 (an2 h).1).2.1,(an4 (an2 h).1).2.2.1,(an4 (an2 h).1).2.2.2,(an2 h).2⟩
theorem an6 {a b c d e f:Bool} (h:(a && b && c && d && e && f)=true):a=true/\b=true/\c=true/\d=true/\e=true/\f=true:=⟨(an5 (an2 h).1).1,(an5 (an2 h).1).2.1,(an5 (an2 h).1).2.2.1,(an5 (an2 h).1).2.2.2.1,(an5 (an2 h).1).2.2.2.2,(an2 h).2⟩
noncomputable def l1 {α:Type} (l:List α) (k:α->Bool):Bool:=match l with
 | []=>false
 | x::t=>t.isEmpty && k x
noncomputable def lC {α:Type} (l:List α) (k:α->List α->Bool):Bool:=match l with
 | []=>false
 | x::t=>k x t
theorem fI {α:Type} {l:List α} {k:α->List α->Bool} (h:lC l k=true):∃ x t,l=x::t/\k x t=true:=by
 cases l with
 | nil=>cases h
 | cons x t=>exact ⟨x,t,rfl,h⟩
theorem gX {α:Type} {l:List α} (h:l.isEmpty=true):l=[]:=by cases l;rfl;cases h
theorem jW {α:Type} {l:List α} {k:α->Bool} (h:l1 l k=true):∃ x,l=[x]/\k x=true:=by
 cases l with
 | nil=>cases h
 | cons x t=>obtain ⟨h1,h2⟩:=an2 h;cases gX h1;exact ⟨x,rfl,h2⟩
noncomputable def aG (e:Expr):Bool:=!(e.ctorIdx == 22 || e.ctorIdx == 26 || e.ctorIdx == 7)
noncomputable def ow (e:Expr) (k:BoolOp->List Expr->Pos->Bool):Bool:=if h:e.ctorIdx=0 then @Expr.BoolOp.elim (fun _=>Bool) e h k else false
theorem mT {e:Expr} {k:BoolOp->List Expr->Pos->Bool} (h:ow e k=true):∃ x0 x1 x2,e = .BoolOp x0 x1 x2/\k x0 x1 x2=true:=by
 obtain ⟨h1,h⟩:=bU h
 exact Expr.BoolOp.elim (motive_1:=fun e=>∀ h',@Expr.BoolOp.elim (fun _=>Bool) e h' k=true->∃ x0 x1 x2,e = .BoolOp x0 x1 x2/\k x0 x1 x2=true) e h1 (fun x0 x1 x2 _ hh=>⟨x0,x1,x2,rfl,hh⟩) h1 h
noncomputable def yf (e:Expr) (k:Expr->Operator->Expr->Pos->Bool):Bool:=if h:e.ctorIdx=2 then @Expr.BinOp.elim (fun _=>Bool) e h k else false
theorem yg {e:Expr} {k:Expr->Operator->Expr->Pos->Bool} (h:yf e k=true):∃ x0 x1 x2 x3,e = .BinOp x0 x1 x2 x3/\k x0 x1 x2 x3=true:=by
 obtain ⟨h1,h⟩:=bU h
 exact Expr.BinOp.elim (motive_1:=fun e=>∀ h',@Expr.BinOp.elim (fun _=>Bool) e h' k=true->∃ x0 x1 x2 x3,e = .BinOp x0 x1 x2 x3/\k x0 x1 x2 x3=true) e h1 (fun x0 x1 x2 x3 _ hh=>⟨x0,x1,x2,x3,rfl,hh⟩) h1 h
noncomputable def iE (e:Expr) (k:UnaryOp->Expr->Pos->Bool):Bool:=if h:e.ctorIdx=3 then @Expr.UnaryOp.elim (fun _=>Bool) e h k else false
theorem kW {e:Expr} {k:UnaryOp->Expr->Pos->Bool} (h:iE e k=true):∃ x0 x1 x2,e = .UnaryOp x0 x1 x2/\k x0 x1 x2=true:=by
 obtain ⟨h1,h⟩:=bU h
 exact Expr.UnaryOp.elim (motive_1:=fun e=>∀ h',@Expr.UnaryOp.elim (fun _=>Bool) e h' k=true->∃ x0 x1 x2,e = .UnaryOp x0 x1 x2/\k x0 x1 x2=true) e h1 (fun x0 x1 x2 _ hh=>⟨x0,x1,x2,rfl,hh⟩) h1 h
noncomputable def jd (e:Expr) (k:Expr->List Comprehension->Scope->Pos->Bool):Bool:=if h:e.ctorIdx=8 then @Expr.ListComp.elim (fun _=>Bool) e h k else false
theorem jB {e:Expr} {k:Expr->List Comprehension->Scope->Pos->Bool} (h:jd e k=true):∃ x0 x1 x2 x3,e = .ListComp x0 x1 x2 x3/\k x0 x1 x2 x3=true:=by
 obtain ⟨h1,h⟩:=bU h
 exact Expr.ListComp.elim (motive_1:=fun e=>∀ h',@Expr.ListComp.elim (fun _=>Bool) e h' k=true->∃ x0 x1 x2 x3,e = .ListComp x0 x1 x2 x3/\k x0 x1 x2 x3=true) e h1 (fun x0 x1 x2 x3 _ hh=>⟨x0,x1,x2,x3,rfl,hh⟩) h1 h
noncomputable def kY (e:Expr) (k:Expr->List CmpOp->List Expr->Pos->Bool):Bool:=if h:e.ctorIdx=15 then @Expr.Compare.elim (fun _=>Bool) e h k else false
theorem kZ {e:Expr} {k:Expr->List CmpOp->List Expr->Pos->Bool} (h:kY e k=true):∃ x0 x1 x2 x3,e = .Compare x0 x1 x2 x3/\k x0 x1 x2 x3=true:=by
 obtain ⟨h1,h⟩:=bU h
 exact Expr.Compare.elim (motive_1:=fun e=>∀ h',@Expr.Compare.elim (fun _=>Bool) e h' k=true->∃ x0 x1 x2 x3,e = .Compare x0 x1 x2 x3/\k x0 x1 x2 x3=true) e h1 (fun x0 x1 x2 x3 _ hh=>⟨x0,x1,x2,x3,rfl,hh⟩) h1 h
noncomputable def tP (e:Expr) (k:Expr->List Expr->List Keyword->Pos->Bool):Bool:=if h:e.ctorIdx=16 then @Expr.Call.elim (fun _=>Bool) e h k else false
theorem tQ {e:Expr} {k:Expr->List Expr->List Keyword->Pos->Bool} (h:tP e k=true):∃ x0 x1 x2 x3,e = .Call x0 x1 x2 x3/\k x0 x1 x2 x3=true:=by
 obtain ⟨h1,h⟩:=bU h
 exact Expr.Call.elim (motive_1:=fun e=>∀ h',@Expr.Call.elim (fun _=>Bool) e h' k=true->∃ x0 x1 x2 x3,e = .Call x0 x1 x2 x3/\k x0 x1 x2 x3=true) e h1 (fun x0 x1 x2 x3 _ hh=>⟨x0,x1,x2,x3,rfl,hh⟩) h1 h
noncomputable def dY (e:Expr) (k:Const->Nat->Pos->Bool):Bool:=if h:e.ctorIdx=19 then @Expr.Constant.elim (fun _=>Bool) e h k else false
theorem de {e:Expr} {k:Const->Nat->Pos->Bool} (h:dY e k=true):∃ x0 x1 x2,e = .Constant x0 x1 x2/\k x0 x1 x2=true:=by
 obtain ⟨h1,h⟩:=bU h
 exact Expr.Constant.elim (motive_1:=fun e=>∀ h',@Expr.Constant.elim (fun _=>Bool) e h' k=true->∃ x0 x1 x2,e = .Constant x0 x1 x2/\k x0 x1 x2=true) e h1 (fun x0 x1 x2 _ hh=>⟨x0,x1,x2,rfl,hh⟩) h1 h
noncomputable def k6 (e:Expr) (k:Expr->Str->Pos->Bool):Bool:=if h:e.ctorIdx=20 then @Expr.Attribute.elim (fun _=>Bool) e h k else false
theorem oz {e:Expr} {k:Expr->Str->Pos->Bool} (h:k6 e k=true):∃ x0 x1 x2,e = .Attribute x0 x1 x2/\k x0 x1 x2=true:=by
 obtain ⟨h1,h⟩:=bU h
 exact Expr.Attribute.elim (motive_1:=fun e=>∀ h',@Expr.Attribute.elim (fun _=>Bool) e h' k=true->∃ x0 x1 x2,e = .Attribute x0 x1 x2/\k x0 x1 x2=true) e h1 (fun x0 x1 x2 _ hh=>⟨x0,x1,x2,rfl,hh⟩) h1 h
noncomputable def eO (e:Expr) (k:Expr->Expr->Pos->Bool):Bool:=if h:e.ctorIdx=21 then @Expr.Subscript.elim (fun _=>Bool) e h k else false
theorem eS {e:Expr} {k:Expr->Expr->Pos->Bool} (h:eO e k=true):∃ x0 x1 x2,e = .Subscript x0 x1 x2/\k x0 x1 x2=true:=by
 obtain ⟨h1,h⟩:=bU h
 exact Expr.Subscript.elim (motive_1:=fun e=>∀ h',@Expr.Subscript.elim (fun _=>Bool) e h' k=true->∃ x0 x1 x2,e = .Subscript x0 x1 x2/\k x0 x1 x2=true) e h1 (fun x0 x1 x2 _ hh=>⟨x0,x1,x2,rfl,hh⟩) h1 h
noncomputable def yh (e:Expr) (k:Str->Pos->Bool):Bool:=if h:e.ctorIdx=23 then @Expr.Name.elim (fun _=>Bool) e h k else false
theorem tR {e:Expr} {k:Str->Pos->Bool} (h:yh e k=true):∃ x0 x1,e = .Name x0 x1/\k x0 x1=true:=by
 obtain ⟨h1,h⟩:=bU h
 exact Expr.Name.elim (motive_1:=fun e=>∀ h',@Expr.Name.elim (fun _=>Bool) e h' k=true->∃ x0 x1,e = .Name x0 x1/\k x0 x1=true) e h1 (fun x0 x1 _ hh=>⟨x0,x1,rfl,hh⟩) h1 h
noncomputable def DU (e:Expr) (k:List Expr->Pos->Bool):Bool:=if h:e.ctorIdx=24 then @Expr.List.elim (fun _=>Bool) e h k else false
theorem Bk {e:Expr} {k:List Expr->Pos->Bool} (h:DU e k=true):∃ x0 x1,e = .List x0 x1/\k x0 x1=true:=by
 obtain ⟨h1,h⟩:=bU h
 exact Expr.List.elim (motive_1:=fun e=>∀ h',@Expr.List.elim (fun _=>Bool) e h' k=true->∃ x0 x1,e = .List x0 x1/\k x0 x1=true) e h1 (fun x0 x1 _ hh=>⟨x0,x1,rfl,hh⟩) h1 h
noncomputable def yi (e:Expr) (k:List Expr->Nat->Pos->Bool):Bool:=if h:e.ctorIdx=25 then @Expr.Tuple.elim (fun _=>Bool) e h k else false
theorem yj {e:Expr} {k:List Expr->Nat->Pos->Bool} (h:yi e k=true):∃ x0 x1 x2,e = .Tuple x0 x1 x2/\k x0 x1 x2=true:=by
 obtain ⟨h1,h⟩:=bU h
 exact Expr.Tuple.elim (motive_1:=fun e=>∀ h',@Expr.Tuple.elim (fun _=>Bool) e h' k=true->∃ x0 x1 x2,e = .Tuple x0 x1 x2/\k x0 x1 x2=true) e h1 (fun x0 x1 x2 _ hh=>⟨x0,x1,x2,rfl,hh⟩) h1 h
noncomputable def yk (e:Expr) (k:Option Expr->Option Expr->Option Expr->Pos->Bool):Bool:=if h:e.ctorIdx=26 then @Expr.Slice.elim (fun _=>Bool) e h k else false
theorem ym {e:Expr} {k:Option Expr->Option Expr->Option Expr->Pos->Bool} (h:yk e k=true):∃ x0 x1 x2 x3,e = .Slice x0 x1 x2 x3/\k x0 x1 x2 x3=true:=by
 obtain ⟨h1,h⟩:=bU h
 exact Expr.Slice.elim (motive_1:=fun e=>∀ h',@Expr.Slice.elim (fun _=>Bool) e h' k=true->∃ x0 x1 x2 x3,e = .Slice x0 x1 x2 x3/\k x0 x1 x2 x3=true) e h1 (fun x0 x1 x2 x3 _ hh=>⟨x0,x1,x2,x3,rfl,hh⟩) h1 h
noncomputable def si (e:Expr):Bool:=!(e.ctorIdx == 22 || tP e fun f es ks _=>f.ctorIdx == 23 && es.isEmpty && ks.isEmpty)
noncomputable def FQ (e:Expr):Bool:=!(e.ctorIdx == 0 || e.ctorIdx == 5 || e.ctorIdx == 15 || iE e fun o _ _=>decide (o = .Not))
noncomputable def k7 (own N:List Str):List Nat:=(List.range N.length).filter fun i=>match N[i]? with
 | some x=>own.contains x
 | none=>false
noncomputable def Blk.inner (b:Blk) (own:List Str) (scope:Scope):Blk:=⟨fC scope b.sc,some scope,cH (k7 own b.N) b.N++own⟩
noncomputable def yn (e:Expr):Option (Str × Pos):=if h:e.ctorIdx=23 then some (@Expr.Name.elim (fun _=>Str × Pos) e h fun x p=>(x,p)) else none
noncomputable def vM (e:Expr):Option (List Expr × Nat × Pos):=if h:e.ctorIdx=25 then some (@Expr.Tuple.elim (fun _=>List Expr × Nat × Pos) e h fun es k p=>(es,k,p)) else none
theorem DV {α:Type} {P:Prop} [Decidable P] {f:P->α} {r:α} (h:(if p:P then some (f p) else none)=some r):∃ p,f p=r:=by
 by_cases p:P
 ·rw [dif_pos p] at h;cases h;exact ⟨p,rfl⟩
 ·rw [dif_neg p] at h;cases h
theorem oB {e:Expr} {x:Str} {p:Pos} (h:yn e=some (x,p)):e = .Name x p:=by
 obtain ⟨h1,h⟩:=DV h
 exact Expr.Name.elim (motive_1:=fun e=>∀ h',Expr.Name.elim (motive_1:=fun _=>Str × Pos) e h' (fun x p=>(x,p))=(x,p)->e = .Name x p) e h1 (fun _ _ _ hh=>by cases hh;rfl) h1 h
theorem oC {e:Expr} {es:List Expr} {k:Nat} {p:Pos} (h:vM e=some (es,k,p)):e = .Tuple es k p:=by
 obtain ⟨h1,h⟩:=DV h
 exact Expr.Tuple.elim (motive_1:=fun e=>∀ h',Expr.Tuple.elim (motive_1:=fun _=>List Expr × Nat × Pos) e h' (fun es k p=>(es,k,p))=(es,k,p)->e = .Tuple es k p) e h1 (fun _ _ _ _ hh=>by cases hh;rfl) h1 h
noncomputable def oA {α:Type} (o:Option α) (k:α->Bool):Bool:=match o with
 | some r=>k r
 | none=>false
theorem yo {α:Type} {o:Option α} {k:α->Bool} (h:oA o k=true):∃ r,o=some r/\k r=true:=by
 cases o with
 | none=>cases h
 | some r=>exact ⟨r,rfl,h⟩
theorem Bl {a b:Bool} (h:(a || b)=true):a=true\/b=true:=by cases a;exact .inr h;exact .inl rfl
mutual
noncomputable def sj (b:Blk) (e:Expr):Tg->Bool
 | .name i=>oA (yn e) fun r=>b.N[i]? == some r.1 && b.own r.1
 | .tup ts=>oA (vM e) fun r=>k8 b r.1 ts
noncomputable def k8 (b:Blk) (es:List Expr):List Tg->Bool
 | []=>es.isEmpty
 | t::ts=>lC es fun e es=>sj b e t && aG e && k8 b es ts
end
noncomputable def JY (e:Expr):Bool:=dY e fun c _ _=>decide (c = .none)
noncomputable def sBl (v:Bool) (e:Expr):Bool:=dY e fun c _ _=>decide (c = .bool v)
noncomputable def FR (v:Int) (e:Expr):Bool:=dY e fun c _ _=>decide (c = .int v)
noncomputable def JZ (v:Str) (e:Expr):Bool:=dY e fun c _ _=>decide (c = .str v)
noncomputable def tS (k:Str->Bool) (e:Expr):Bool:=yh e fun x _=>k x
noncomputable def Bm (k:List Expr->Bool) (e:Expr):Bool:=yi e fun es _ _=>k es
noncomputable def J0 (k:List Expr->Bool) (e:Expr):Bool:=DU e fun es _=>k es
noncomputable def J1 (o:Operator) (k l:Expr->Bool) (e:Expr):Bool:=yf e fun x op y _=>decide (op=o) && k x && l y
noncomputable def J2 (k:Expr->Bool) (e:Expr):Bool:=iE e fun o x _=>decide (o = .USub) && k x
noncomputable def FS (k:Expr->Bool) (e:Expr):Bool:=iE e fun o x _=>decide (o = .Not) && k x
noncomputable def FT (o:CmpOp) (k l:Expr->Bool) (e:Expr):Bool:=kY e fun x os ys _=>l1 os fun op=>l1 ys fun y=>decide (op=o) && k x && l y && aG y
noncomputable def FV (o p:CmpOp) (k l m:Expr->Bool) (e:Expr):Bool:=kY e fun x os ys _=>lC os fun op os=>l1 os fun op'=>lC ys fun y ys=>l1 ys fun z=>decide (op=o) && decide (op'=p) && k x && l y && m z && aG z
noncomputable def yp (o:BoolOp) (k l:Expr->Bool) (e:Expr):Bool:=ow e fun op vs _=>lC vs fun x vs=>l1 vs fun y=>decide (op=o) && k x && l y
noncomputable def yq (o:BoolOp) (k l:Expr->Bool) (e:Expr):Bool:=ow e fun op vs p=>lC vs fun x vs=>lC vs fun y vs=>lC vs fun z ys=>decide (op=o) && k x && l (.BoolOp o (y::z::ys) p)
noncomputable def sIx (k l:Expr->Bool) (e:Expr):Bool:=eO e fun x y _=>k x && l y && aG y
noncomputable def sSl (k:Expr->Bool) (l m:Option Expr->Bool) (e:Expr):Bool:=eO e fun x s _=>yk s fun y z w _=>w.isNone && k x && l y && m z
noncomputable def sCN (e:Expr) (k:Str->List Expr->List Keyword->Bool):Bool:=tP e fun f es ks _=>yh f fun x _=>k x es ks
noncomputable def DW (k:Str->Bool) (l:List Expr->Bool) (e:Expr):Bool:=sCN e fun x es ks=>lC es fun e es=>ks.isEmpty && k x && l (e::es)
noncomputable def sr (b:Blk) (f:Str) (k:List Expr->Bool) (e:Expr):Bool:=sCN e fun x es ks=>lC es fun e es=>ks.isEmpty && x == f && b.glo x && k (e::es)
noncomputable def cK (b:Blk) (f:Str) (k:Expr->Bool) (e:Expr):Bool:=sCN e fun x es ks=>l1 es fun e=>ks.isEmpty && x == f && b.glo x && k e && aG e
noncomputable def J3 (c:Int) (ks:List Keyword):Bool:=l1 ks fun w=>w.arg == some (Str.ofString "default") && FR c w.value
noncomputable def DX (b:Blk) (c:Int) (k:Expr->Bool) (e:Expr):Bool:=sCN e fun x es ks=>l1 es fun e=>J3 c ks && x == "max" && b.glo x && k e && aG e
noncomputable def oD (b:Blk) (f:Str) (k l:Expr->Bool) (e:Expr):Bool:=sCN e fun x es ks=>lC es fun e es=>l1 es fun e'=>ks.isEmpty && (x == f && b.glo x && k e && aG e && l e' && aG e')
noncomputable def yr (m:Str) (k:Expr->Bool) (l:List Expr->Bool) (e:Expr):Bool:=tP e fun f es ks p=>k6 f fun x m' ap=>ks.isEmpty && m' == m && si x && (ap.endLine == p.line) && k x && l es
noncomputable def DY (k:Expr->Expr->Expr->List Expr->List Comprehension->Scope->Bool) (e:Expr):Bool:=jd e fun e gs scope _=>lC gs fun g gs=>decide (g.is_async=0) && k e g.target g.iter g.ifs gs scope
theorem cn {x y:Str} (h:(x == y)=true):x=y:=eq_of_beq h
section
variable {e:Expr} {k l m:Expr->Bool}
theorem FW (h:JY e=true):∃ a p,e = .Constant .none a p:=by
 obtain ⟨c,a,p,rfl,h⟩:=de h;cases of_decide_eq_true h;exact ⟨a,p,rfl⟩
theorem J4 {v:Bool} (h:sBl v e=true):∃ a p,e = .Constant (.bool v) a p:=by
 obtain ⟨c,a,p,rfl,h⟩:=de h;cases of_decide_eq_true h;exact ⟨a,p,rfl⟩
theorem yt {v:Int} (h:FR v e=true):∃ a p,e = .Constant (.int v) a p:=by
 obtain ⟨c,a,p,rfl,h⟩:=de h;cases of_decide_eq_true h;exact ⟨a,p,rfl⟩
theorem FX {v:Str} (h:JZ v e=true):∃ a p,e = .Constant (.str v) a p:=by
 obtain ⟨c,a,p,rfl,h⟩:=de h;cases of_decide_eq_true h;exact ⟨a,p,rfl⟩
theorem oE {k:Str->Bool} (h:tS k e=true):∃ x p,e = .Name x p/\k x=true:=tR h
theorem su {k:List Expr->Bool} (h:Bm k e=true):∃ x a p,e = .Tuple x a p/\k x=true:=yj h
theorem FY {k:List Expr->Bool} (h:J0 k e=true):∃ x p,e = .List x p/\k x=true:=Bk h
theorem FZ {o:Operator} (h:J1 o k l e=true):∃ x y p,e = .BinOp x o y p/\k x=true/\l y=true:=by
 obtain ⟨x,op,y,p,rfl,h⟩:=yg h;obtain ⟨h1,z0⟩:=an3 h;cases of_decide_eq_true h1;exact ⟨x,y,p,rfl,z0⟩
theorem F0 (h:J2 k e=true):∃ x p,e = .UnaryOp .USub x p/\k x=true:=by
 obtain ⟨op,x,p,rfl,h⟩:=kW h;obtain ⟨h1,z0⟩:=an2 h;cases of_decide_eq_true h1;exact ⟨x,p,rfl,z0⟩
theorem yu (h:FS k e=true):∃ x p,e = .UnaryOp .Not x p/\k x=true:=by
 obtain ⟨op,x,p,rfl,h⟩:=kW h;obtain ⟨h1,z0⟩:=an2 h;cases of_decide_eq_true h1;exact ⟨x,p,rfl,z0⟩
theorem yv {o:CmpOp} (h:FT o k l e=true):∃ x y p,e = .Compare x [o] [y] p/\k x=true/\l y=true/\aG y=true:=by
 obtain ⟨x,os,ys,p,rfl,h⟩:=kZ h;obtain ⟨op,rfl,h⟩:=jW h;obtain ⟨y,rfl,h⟩:=jW h;obtain ⟨h1,z0⟩:=an4 h;cases of_decide_eq_true h1;exact ⟨x,y,p,rfl,z0⟩
theorem yw {o p:CmpOp} (h:FV o p k l m e=true):∃ x y z q,e = .Compare x [o,p] [y,z] q/\k x=true/\l y=true/\m z=true/\aG z=true:=by
 obtain ⟨x,os,ys,q,rfl,h⟩:=kZ h;obtain ⟨op,os,rfl,h⟩:=fI h;obtain ⟨op',rfl,h⟩:=jW h;obtain ⟨y,ys,rfl,h⟩:=fI h;obtain ⟨z,rfl,h⟩:=jW h;obtain ⟨h1,h2,z0⟩:=an6 h;cases of_decide_eq_true h1;cases of_decide_eq_true h2;exact ⟨x,y,z,q,rfl,z0⟩
theorem oG {o:BoolOp} (h:yp o k l e=true):∃ x y p,e = .BoolOp o [x,y] p/\k x=true/\l y=true:=by
 obtain ⟨op,vs,p,rfl,h⟩:=mT h;obtain ⟨x,vs,rfl,h⟩:=fI h;obtain ⟨y,rfl,h⟩:=jW h;obtain ⟨h1,z0⟩:=an3 h;cases of_decide_eq_true h1;exact ⟨x,y,p,rfl,z0⟩
theorem oH {o:BoolOp} (h:yq o k l e=true):∃ x y z ys p,e = .BoolOp o (x::y::z::ys) p/\k x=true/\l (.BoolOp o (y::z::ys) p)=true:=by
 obtain ⟨op,vs,p,rfl,h⟩:=mT h;obtain ⟨x,vs,rfl,h⟩:=fI h;obtain ⟨y,vs,rfl,h⟩:=fI h;obtain ⟨z,vs,rfl,h⟩:=fI h;obtain ⟨h1,z0⟩:=an3 h;cases of_decide_eq_true h1;exact ⟨x,y,z,vs,p,rfl,z0⟩
theorem J5 (h:sIx k l e=true):∃ x y p,e = .Subscript x y p/\k x=true/\l y=true/\aG y=true:=by
 obtain ⟨x,y,p,rfl,h⟩:=eS h;exact ⟨x,y,p,rfl,an3 h⟩
theorem J6 {l m:Option Expr->Bool} (h:sSl k l m e=true):∃ x y z p q,e = .Subscript x (.Slice y z none p) q/\k x=true/\l y=true/\m z=true:=by
 obtain ⟨x,s,q,rfl,h⟩:=eS h;obtain ⟨y,z,w,p,rfl,h⟩:=ym h;obtain ⟨h1,z0⟩:=an4 h;cases w;exact ⟨x,y,z,p,q,rfl,z0⟩;cases h1
theorem qg {k:Str->List Expr->List Keyword->Bool} (h:sCN e k=true):∃ x p es ks q,e = .Call (.Name x p) es ks q/\k x es ks=true:=by
 obtain ⟨f,es,ks,q,rfl,h⟩:=tQ h;obtain ⟨x,p,rfl,h⟩:=tR h;exact ⟨x,p,es,ks,q,rfl,h⟩
theorem Bn {k:Str->Bool} {l:List Expr->Bool} (h:DW k l e=true):∃ x x1 es p q,e = .Call (.Name x p) (x1::es) [] q/\k x=true/\l (x1::es)=true:=by
 obtain ⟨x,p,es,ks,q,rfl,h⟩:=qg h;obtain ⟨x1,es,rfl,h⟩:=fI h;obtain ⟨h1,z0⟩:=an3 h;cases gX h1;exact ⟨x,x1,es,p,q,rfl,z0⟩
theorem qh {b:Blk} {f:Str} {k:List Expr->Bool} (h:sr b f k e=true):∃ x es p q,e = .Call (.Name f p) (x::es) [] q/\b.glo f=true/\k (x::es)=true:=by
 obtain ⟨x,p,es,ks,q,rfl,h⟩:=qg h;obtain ⟨x1,es,rfl,h⟩:=fI h;obtain ⟨h1,h2,z0⟩:=an4 h;cases gX h1;cases cn h2;exact ⟨x1,es,p,q,rfl,z0⟩
theorem bo {b:Blk} {f:Str} (h:cK b f k e=true):∃ x p q,e = .Call (.Name f p) [x] [] q/\b.glo f=true/\k x=true/\aG x=true:=by
 obtain ⟨x,p,es,ks,q,rfl,h⟩:=qg h;obtain ⟨x1,rfl,h⟩:=jW h;obtain ⟨h1,h2,z0⟩:=an5 h;cases gX h1;cases cn h2;exact ⟨x1,p,q,rfl,z0⟩
theorem F1 {c:Int} {ks:List Keyword} (h:J3 c ks=true):∃ j p q,ks=[⟨some "default", .Constant (.int c) j p,q⟩]:=by
 obtain ⟨⟨a,v,q⟩,rfl,h⟩:=jW h
 obtain ⟨h1,z0⟩:=an2 h
 obtain ⟨j,p,e⟩:=yt z0
 obtain e1:=eq_of_beq h1
 exact ⟨j,p,q,by rw [show v=_ from e,show a=_ from e1]⟩
theorem Bo {b:Blk} {c:Int} (h:DX b c k e=true):∃ x p q j p' q',e = .Call (.Name "max" p) [x] [⟨some "default", .Constant (.int c) j p',q'⟩] q/\b.glo "max" = true/\k x=true/\aG x=true:=by
 obtain ⟨x,p,es,ks,q,rfl,h⟩:=qg h;obtain ⟨x1,rfl,h⟩:=jW h;obtain ⟨h1,h2,z0⟩:=an5 h;obtain ⟨j,p',q',rfl⟩:=F1 h1;cases cn h2;exact ⟨x1,p,q,j,p',q',rfl,z0⟩
theorem fJ {b:Blk} {f:Str} (h:oD b f k l e=true):∃ x y p q,e = .Call (.Name f p) [x,y] [] q/\b.glo f=true/\k x=true/\aG x=true/\l y=true/\aG y=true:=by
 obtain ⟨x,p,es,ks,q,rfl,h⟩:=qg h;obtain ⟨x1,es,rfl,h⟩:=fI h;obtain ⟨y,rfl,h⟩:=jW h;obtain ⟨h1,y0⟩:=an2 h;obtain ⟨h2,z0⟩:=an6 y0;cases gX h1;cases cn h2;exact ⟨x1,y,p,q,rfl,z0⟩
theorem oI {m:Str} {l:List Expr->Bool} (h:yr m k l e=true):∃ x ap es p,e = .Call (.Attribute x m ap) es [] p/\si x=true/\(ap.endLine == p.line)=true/\k x=true/\l es=true:=by
 obtain ⟨f,es,ks,p,rfl,h⟩:=tQ h;obtain ⟨x,m',ap,rfl,h⟩:=oz h;obtain ⟨h1,h2,z0⟩:=an6 h;cases gX h1;cases cn h2;exact ⟨x,ap,es,p,rfl,z0⟩
theorem tU {k:Expr->Expr->Expr->List Expr->List Comprehension->Scope->Bool} (h:DY k e=true):∃ el t i ifs gs scope p,e = .ListComp el (⟨t,i,ifs,0⟩::gs) scope p/\k el t i ifs gs scope=true:=by
 obtain ⟨el,gs,scope,p,rfl,h⟩:=jB h;obtain ⟨⟨t,i,ifs,as⟩,gs,rfl,h⟩:=fI h;obtain ⟨h1,z0⟩:=an2 h;cases of_decide_eq_true h1;exact ⟨el,t,i,ifs,gs,scope,p,rfl,z0⟩
end
noncomputable def yx (f:Expr->CE->Bool) (l:Option Expr):Option CE->Bool
 | none=>l.isNone
 | some c=>oA l fun e=>f e c
noncomputable def yy (f:Expr->CE->Bool) (l:List Expr):Option CE->Bool
 | none=>l.isEmpty
 | some c=>l1 l fun e=>f e c
noncomputable def clC (cls:List Cl) (k:Tg->CI->Option CE->List Cl->Bool):Bool:=match cls with
 | []=>false
 | ⟨tg,it,cond⟩::rest=>k tg it cond rest
theorem DZ {cls:List Cl} {k:Tg->CI->Option CE->List Cl->Bool} (h:clC cls k=true):∃ tg it cond rest,cls=⟨tg,it,cond⟩::rest/\k tg it cond rest=true:=by
 cases cls with
 | nil=>cases h
 | cons g rest=>obtain ⟨tg,it,cond⟩:=g;exact ⟨tg,it,cond,rest,rfl,h⟩
mutual
noncomputable def aH (T:Tab):Nat->Blk->Expr->CE->Bool
 | 0,_,_,_=>false
 | n+1,b,e,c=>match c with
  | .non=>JY e
  | .bl v=>sBl v e
  | .int i=>FR i e
  | .str x=>JZ x e
  | .var i=>tS (fun x=>b.N[i]? == some x && b.vis x) e
  | .con k v=>tS (fun x=>T.con[k]? == some (x,v) && b.glo x) e
  | .tup cs=>Bm (fun es=>fw T n b es cs) e
  | .lst cs=>J0 (fun es=>fw T n b es cs) e
  | .bin o a c=>J1 o.op (fun x=>aH T n b x a) (fun x=>aH T n b x c) e
  | .neg a=>J2 (fun x=>aH T n b x a) e
  | .cmp o a c=>FT o.op (fun x=>aH T n b x a) (fun x=>aH T n b x c) e
  | .chn o p a c d=>FV o.op p.op (fun x=>aH T n b x a) (fun x=>aH T n b x c) (fun x=>aH T n b x d) e
  | .and a c=>yp .And (fun x=>aH T n b x a) (fun x=>aH T n b x c) e || yq .And (fun x=>aH T n b x a) (fun x=>aH T n b x c) e
  | .or a c=>yp .Or (fun x=>aH T n b x a) (fun x=>aH T n b x c) e || yq .Or (fun x=>aH T n b x a) (fun x=>aH T n b x c) e
  | .not a=>FS (fun x=>aH T n b x a) e
  | .ix a c=>sIx (fun x=>aH T n b x a) (fun x=>aH T n b x c) e
  | .sl a lo hi=>sSl (fun x=>aH T n b x a) (fun l=>yx (aH T n b) l lo) (fun l=>yx (aH T n b) l hi) e
  | .call f cs=>DW (fun x=>oA T.fns[f]? (fun y=>y.1 == x) && b.glo x) (fun es=>fw T n b es cs) e
  | .inst t a=>oD b "isinstance" (fun x=>aH T n b x a) (tS fun y=>y == Str.ofString t.nm && b.glo y) e
  | .len a=>cK b "len" (fun x=>aH T n b x a) e
  | .all a=>cK b "all" (fun x=>aH T n b x a) e
  | .tupOf a=>cK b "tuple" (fun x=>aH T n b x a) e
  | .listOf a=>cK b "list" (fun x=>aH T n b x a) e
  | .listR a=>cK b "list" (cK b "range" fun x=>aH T n b x a) e
  | .srt a=>cK b "sorted" (fun x=>aH T n b x a) e
  | .mxL a=>cK b "max" (fun x=>aH T n b x a) e
  | .mxD a c=>DX b c (fun x=>aH T n b x a) e
  | .mx a c=>sr b "max" (fun es=>fw T n b es [a,c]) e
  | .mn a c=>sr b "min" (fun es=>fw T n b es [a,c]) e
  | .comp own elt cls=>clC cls fun tg it cond rest=>DY (fun el t i ifs gs scope=>cmB own (k7 own b.N) b.N scope b.sc && qi T n b t i it && sj (b.inner own scope) t tg && yy (fK T n (b.inner own scope)) ifs cond && mU T n (b.inner own scope) el gs elt rest) e
  | .app o a=>yr "append" (fun x=>aH T n b x o) (fun es=>fw T n b es [a]) e
  | .ext o a=>yr "extend" (fun x=>aH T n b x o) (fun es=>fw T n b es [a]) e
  | .popAt o a=>yr "pop" (fun x=>aH T n b x o) (fun es=>fw T n b es [a]) e
  | .cnt o a=>yr "count" (fun x=>aH T n b x o) (fun es=>fw T n b es [a]) e
noncomputable def fw (T:Tab):Nat->Blk->List Expr->List CE->Bool
 | 0,_,_,_=>false
 | n+1,b,es,cs=>match cs with
  | []=>es.isEmpty
  | c::cs=>lC es fun e es=>aH T n b e c && aG e && fw T n b es cs
noncomputable def mU (T:Tab):Nat->Blk->Expr->List Comprehension->CE->List Cl->Bool
 | 0,_,_,_,_,_=>false
 | n+1,b,e,gs,elt,cls=>match cls with
  | []=>gs.isEmpty && aH T n b e elt
  | ⟨tg,it,cond⟩::rest=>lC gs fun g gs=>decide (g.is_async=0) && qi T n b g.target g.iter it && sj b g.target tg && yy (fK T n b) g.ifs cond && mU T n b e gs elt rest
noncomputable def qi (T:Tab):Nat->Blk->Expr->Expr->CI->Bool
 | 0,_,_,_,_=>false
 | n+1,b,t,e,c=>match c with
  | .val a=>aH T n b e a && aG e
  | .r1 a=>cK b "range" (fun x=>aH T n b x a) e
  | .r2 a c=>oD b "range" (fun x=>aH T n b x a) (fun x=>aH T n b x c) e
  | .zp a c=>oD b "zip" (fun x=>aH T n b x a) (fun x=>aH T n b x c) e && Bm (fun _=>true) t
  | .en a=>cK b "enumerate" (fun x=>aH T n b x a) e && Bm (fun _=>true) t
noncomputable def fK (T:Tab):Nat->Blk->Expr->CE->Bool
 | 0,_,_,_=>false
 | n+1,b,e,c=>match c with
  | .cmp o a c=>FT o.op (fun x=>aH T n b x a) (fun x=>aH T n b x c) e
  | .chn o p a c d=>FV o.op p.op (fun x=>aH T n b x a) (fun x=>aH T n b x c) (fun x=>aH T n b x d) e
  | .and a c=>yp .And (fun x=>fK T n b x a) (fun x=>fK T n b x c) e || yq .And (fun x=>fK T n b x a) (fun x=>fK T n b x c) e
  | .or a c=>yp .Or (fun x=>fK T n b x a) (fun x=>fK T n b x c) e || yq .Or (fun x=>fK T n b x a) (fun x=>fK T n b x c) e
  | .not a=>FS (fun x=>fK T n b x a) e
  | c=>aH T n b e c && FQ e
end
theorem gu {T:Tab} {n:Nat} {b:Blk} {t e:Expr} {c:CI} (h:qi T n b t e c=true) (hp:∀ e,aG e=true->∀ env x,foldedSetIterable e env x=pure x):∀ env x,foldedSetIterable e env x=pure x:=by
 cases n with
 | zero=>cases h
 | succ n=>
  cases c with
  | val a=>exact hp e (an2 h).2
  | r1 a=>obtain ⟨x,p,q,rfl,_⟩:=bo h;intro _ _;rfl
  | r2 a c=>obtain ⟨x,y,p,q,rfl,_⟩:=fJ h;intro _ _;rfl
  | zp a c=>obtain ⟨x,y,p,q,rfl,_⟩:=fJ (an2 h).1;intro _ _;rfl
  | en a=>obtain ⟨x,p,q,rfl,_⟩:=bo (an2 h).1;intro _ _;rfl
end Ev
namespace Ev
open PySem PySem.Spec PyProof.Rows L2
structure CtxOk (T:Tab) (C:Calls) (ar:Nat->Nat) (k:Nat) (b:Blk) (X:Cx):Prop where
 calm:X.calm=true
 xe:X.xe=fun _ _=>False
 hN:X.N=b.N
 hs:X.env.scope=b.sc
 nd:b.N.Nodup
 fn:∀ x,(match b.fs with | none=>true | some sc=>sc.names.lookup x == some .cell)=true->X.fn x=true
 room:Room k X.A
 con:∀ (i:Nat) (x:Str) (v:Int),T.con[i]?=some (x,v)->∃ tk,X.mg x=some (.int v tk)
 bl:∀ x,x ∈ iC->X.mg x=none
 fns:∀ (i:Nat) (y:Str × Nat),T.fns[i]?=some y->ar i=y.2/\∃ f fd ps,X.mg y.1=some (.ref f)/\PySem.W.keepIn X.K (.ref f)=true/\mB X.K fd ps []/\FnOk X.prog X.w X.K X.mg X.base CX0 k f fd ps (spC X.K (C i) (ar i))
section
variable {T:Tab} {C:Calls} {ar:Nat->Nat} {k:Nat} {b:Blk} {X:Cx}
theorem aq {e:Expr} {es:List Expr} {env:Env} (h:aG e=true):starEach (e::es) env=(false,eval e env)::starEach es env:=by
 cases e <;> first | rfl | (exact absurd h Bool.false_ne_true)
theorem qj {e:Expr} (h:aG e=true):tv e:=by
 intro o i
 cases e <;> first | rfl | (exact absurd h Bool.false_ne_true)
theorem gY {e:Expr} {op:CmpOp} (h:aG e=true):behindInMarks op e=false:=by
 cases e <;> first | rfl | (exact absurd h Bool.false_ne_true)
theorem k9 {e f:Expr} {op op':CmpOp} (h:aG e=true):lastMarks [op,op'] [f,e]=false:=by
 show behindInMarks op' e=false
 exact gY h
theorem eT {e:Expr} {env:Env} (h:aG e=true):∀ x,foldedSetIterable e env x=pure x:=by
 intro x
 cases e <;> first | rfl | (exact absurd h Bool.false_ne_true)
theorem eU {e:Expr} {m:Str} {env:Env} {w:Sem Value} (h:si e=true):attributeBase e m env w=w:=by
 cases e with
 | Call f as ks p=>
  cases f with
  | Name x q=>
   cases as with
   | nil=>cases ks with | nil=>exact absurd h Bool.false_ne_true | cons _ _=>rfl
   | cons _ _=>rfl
  | _=>rfl
 | _=>first | rfl | (exact absurd h Bool.false_ne_true)
theorem sv {e:Expr} {env:Env} (h:FQ e=true):∀ whole,isTrue e env whole=(do let v <-whole;standAt e.pos;holding [v] (truthy v)):=by
 intro whole
 cases e with
 | UnaryOp op x p=>cases op <;> first | rfl | (exact absurd h Bool.false_ne_true)
 | _=>first | rfl | (exact absurd h Bool.false_ne_true)
theorem je {es:List Expr} {env:Env} {pos:Pos} (h:∀ e ∈ es,aG e=true):(backTo pos (starEach es env)).any (·.1)=false:=by
 induction es with
 | nil=>rfl
 | cons e es ih=>
  rw [aq (h e List.mem_cons_self)]
  show (false || (backTo pos (starEach es env)).any (·.1))=false
  rw [ih fun e he=>h e (List.mem_cons_of_mem _ he)];rfl
theorem bz:∀ {n:Nat} {es:List Expr} {cs:List CE},fw T n b es cs=true->∀ e ∈ es,aG e=true
 | 0,_,_,h=>absurd h Bool.false_ne_true
 | n+1,es,[],h=>fun x hx=>by rw [gX h] at hx;cases hx
 | n+1,es,c::cs,h=>by
  obtain ⟨e,es,rfl,h⟩:=fI h
  obtain ⟨_,h1,h⟩:=an3 h
  intro x hx
  rcases List.mem_cons.mp hx with rfl | hx
  ·exact h1
  ·exact bz h x hx
theorem CtxOk.gl (G:CtxOk T C ar k b X) {x:Str} (h:b.glo x=true):Gl X x/\(x == ("__debug__" : Str))=false:=by
 unfold Blk.glo at h
 rw [bAE] at h
 refine ⟨?_,by simpa using h.2⟩
 show X.env.scope.names.lookup x=_
 rw [G.hs]
 simpa using h.1
theorem CtxOk.vis (G:CtxOk T C ar k b X) {x:Str} (h:b.vis x=true):Vis X.env.scope x/\(x == ("__debug__" : Str))=false/\(x == ("__classdict__" : Str))=false:=by
 unfold Blk.vis at h
 rw [bAE,bAE] at h
 refine ⟨?_,by simpa using h.1.2,by simpa using h.2⟩
 unfold Vis
 rw [G.hs]
 have h1:=h.1.1
 split at h1
 ·rename_i e;exact .inl e
 ·rename_i e;exact .inr (.inl e)
 ·rename_i e;exact .inr (.inr e)
 ·cases h1
theorem CtxOk.own (G:CtxOk T C ar k b X) {x:Str} (h:b.own x=true):L2.Loc X.env.scope x/\(X.fn x=true\/X.env.scope.names.lookup x=some .local):=by
 unfold Blk.own at h
 unfold L2.Loc
 rw [G.hs]
 split at h
 ·rename_i e;exact ⟨.inl e,.inr e⟩
 ·rename_i e
  refine ⟨.inr e,.inl (G.fn x ?_)⟩
  cases hf:b.fs with
  | none=>rfl
  | some sc=>rw [hf] at h;exact h
 ·cases h
theorem CtxOk.inner (G:CtxOk T C ar k b X) {own:List Str} {scope:Scope} (S:CmScope own (k7 own b.N) b.N scope b.sc) {C':Addr} {ex:List Addr} {s:Shared} {H:Hp}:CtxOk T C ar k (b.inner own scope) (cxC X own (k7 own b.N) scope C' ex s H):=
 ⟨G.calm,rfl,by show cH (k7 own b.N) X.N++own=_;rw [G.hN];rfl,by show fC scope X.env.scope=_;rw [G.hs];rfl,S.nd,fun x h=>h,G.room,G.con,G.bl,G.fns⟩
theorem mV {e:Expr} {es:List Expr} {env:Env} (h:aG e=true):assignEach (e::es) env=(false,assign e env)::assignEach es env:=by
 cases e <;> first | rfl | (exact absurd h Bool.false_ne_true)
mutual
theorem gw (G:CtxOk T C ar k b X):∀ {e:Expr} {t:Tg},sj b e t=true->PG X e (tTg X.K t)
 | e,.name i,h=>by
  obtain ⟨r,hx,h⟩:=yo h
  obtain ⟨h1,h2⟩:=an2 h
  rw [oB hx]
  have o:=G.own h2
  exact PG.imp (Aa (i:=i) (x:=r.1) (by rw [G.hN];exact G.nd) (by rw [G.hN];exact eq_of_beq h1) o.1 o.2) fun x σ H Q q=>ou q
 | e,.tup ts,h=>by
  obtain ⟨r,hx,h⟩:=yo h
  rw [oC hx]
  have hl:=mW h
  exact PG.imp (Ez G.calm (qk G h) rfl hl.2) fun x σ H Q q=>FD hl.1 q
theorem qk (G:CtxOk T C ar k b X):∀ {es:List Expr} {ts:List Tg},k8 b es ts=true->PGs X es (xS X.K ts)
 | es,[],h=>by
  rw [gX h]
  exact PGs.imp Ab fun x σ H Q q=>Ba q
 | es,t::ts,h=>by
  obtain ⟨e,es,rfl,h⟩:=fI h
  obtain ⟨h1,h2,h⟩:=an3 h
  exact PGs.imp (wz (gw G h1) (qk G h) (by rw [mV h2];rfl)) fun x σ H Q q=>xT q
theorem mW:∀ {es:List Expr} {ts:List Tg},k8 b es ts=true->(assignEach es X.env).length=ts.length/\(assignEach es X.env).findIdx? (·.1)=none
 | es,[],h=>by
  rw [gX h]
  exact ⟨rfl,rfl⟩
 | es,t::ts,h=>by
  obtain ⟨e,es,rfl,h⟩:=fI h
  obtain ⟨h1,h2,h⟩:=an3 h
  have ih:=mW h
  rw [mV h2]
  refine ⟨congrArg (·+1) ih.1,?_⟩
  rw [List.findIdx?_cons]
  simp [ih.2]
end
end
end Ev
namespace Ev
open PySem PySem.Spec PyProof.Rows L2
structure Snd (T:Tab) (C:Calls) (ar:Nat->Nat) (k n:Nat):Prop where
 e:∀ (b:Blk) (X:Cx) (e:Expr) (c:CE),CtxOk T C ar k b X->aH T n b e c=true->PE X e (tE X.K (evE C ar n c))
 tm:∀ (b:Blk) (X:Cx) (e:Expr) (c:CE),CtxOk T C ar k b X->ai c=true->aH T n b e c=true->PE X e (eI X.K (cu C ar n c))
 a:∀ (b:Blk) (X:Cx) (es:List Expr) (cs:List CE),CtxOk T C ar k b X->fw T n b es cs=true->PA X es (tAr X.K (evA C ar n cs))
 t:∀ (b:Blk) (X:Cx) (e:Expr) (c:CE),CtxOk T C ar k b X->fK T n b e c=true->PT X e (tT X.K (evT C ar n c))
 i:∀ (B:List Addr) (b:Blk) (X:Cx) (t e:Expr) (c:CI),CtxOk T C ar k b X->qi T n b t e c=true->PI X t e (tIt X.K B (evI C ar n c))
 cl:∀ (b:Blk) (X:Cx) (e:Expr) (gs:List Comprehension) (elt:CE) (cls:List Cl),CtxOk T C ar k b X->mU T n b e gs elt cls=true ->
  ∀ (gens:List Comprehension) (scope:Scope) (pos:Pos) (acc:Addr) (d:Nat),gens.drop (d+1)=gs->PTl X e gens scope pos acc d (tCl X.K acc (gD C ar n elt cls))
section
variable {T:Tab} {C:Calls} {ar:Nat->Nat} {k n:Nat} {b:Blk} {X:Cx}
theorem fL {e:Expr} {es:List Expr} {te:TE} {t:TA} (ha:PE X e te) (hr:PA X es t) (hp:aG e=true):PA X (e::es) (cB te t):=Aj ha hr (aq hp)
theorem J7 (ih:Snd T C ar k n) (es:List Expr) (cs:List CE) (G:CtxOk T C ar k b X) (h:fw T (n+1) b es cs=true):PA X es (tAr X.K (evA C ar (n+1) cs)):=by
 cases cs with
 | nil=>rw [gX h];exact PA.imp wP fun σ H Q q=>Fi q
 | cons c cs=>
  obtain ⟨e,es,rfl,h⟩:=fI h
  obtain ⟨h1,h2,h⟩:=an3 h
  exact PA.imp (fL (ih.e b X e c G h1) (ih.a b X es cs G h) h2) fun σ H Q q=>AL q
theorem cv {e:Expr} {te:TE} (h:PE X e te) (hp:aG e=true):PA X [e] (cB te jP):=fL h wP hp
theorem iG {x:Str} {id:String} {e:Expr} {te:TE} {r:V->Hp->VK->Prop} {p pos:Pos} (hc:aZ X (.builtin id) (r1 r)) (G:CtxOk T C ar k b X) (hg:b.glo x=true) (hb:x ∈ iC) (hv:bootBuiltins x=some (.builtin id)) (hn:x ≠ "__name__") (h:PE X e te) (hp:aG e=true) :
  PE X (.Call (.Name x p) [e] [] pos) (tUn r te):=
 PE.imp (im hc (G.gl hg).1 (G.bl x hb) hv (cv h hp) hn (G.gl hg).2 (aq hp) rfl) fun σ H Q q=>q
theorem oJ {x:Str} {id:String} {e:Expr} {te:TE} {r:V->Hp->VK->Prop} {p pos:Pos} (hc:aZ X (.type id) (r1 r)) (G:CtxOk T C ar k b X) (hg:b.glo x=true) (hb:x ∈ iC) (hv:bootBuiltins x=some (.type id)) (hn:x ≠ "__name__") (h:PE X e te) (hp:aG e=true) :
  PE X (.Call (.Name x p) [e] [] pos) (tUn r te):=
 PE.imp (iZ hc (G.gl hg).1 (G.bl x hb) hv (cv h hp) hn (G.gl hg).2 (aq hp) rfl) fun σ H Q q=>q
theorem lc {x:Str} {e:Expr} {a:CE} {f:Bool->List D->Sto->Option (D × Sto)} {ks:List Keyword} {p pos:Pos} (ih:Snd T C ar k n) (G:CtxOk T C ar k b X) (hq:∀ te:TE,PE X e te->PE X (.Call (.Name x p) [e] ks pos) (tUn (rSq X.K f) te)) (h:aH T n b e a=true) :
  PE X (.Call (.Name x p) [e] ks pos) (tE X.K (if ai a=true then pP f (cu C ar n a) else pQ f (evE C ar n a))):=by
 split
 ·rename_i ht
  exact PE.imp (hq _ (ih.tm b X e a G ht h)) fun σ H Q q=>Fg q
 ·exact PE.imp (hq _ (ih.e b X e a G h)) fun σ H Q q=>Fk q
theorem tV {x y:Str} (h:(x == y)=true):x=y:=eq_of_beq h
theorem oK {K:PySem.W.Frag} {x:XE} {σ:L2.St} {H:Hp} {Q Q':VK} (h:tE K x σ H Q) (f:∀ v H',Q v H'->Q' v H'):tE K x σ H Q':=by
 obtain ⟨m,ρ,S,d,S',E,R,e,q⟩:=h
 exact ⟨m,ρ,S,d,S',E,R,e,fun m' H' v A vd=>f _ _ (q m' H' v A vd)⟩
theorem yz {x:XE} {σ:L2.St} {H:Hp} {Q:VK} {K:PySem.W.Frag} (h:eI K (kU x) σ H Q):tUn (rTm K fun _ ds=>some ds) (tE K x) σ H Q:=by
 obtain ⟨m,ρ,S,ds,S',E,R,e,q⟩:=h
 obtain ⟨d,S1,e1,e⟩:=ab e
 cases hi:ak d S1 with
 | none=>rw [hi] at e;cases e
 | some r=>
  rw [hi] at e
  cases e
  refine ⟨m,ρ,S,d,_,E,R,e1,fun m1 H1 v A1 vd=>?_⟩
  obtain ⟨a,vs,ev,sq,vds⟩:=dS (tu:=r.1) (ds:=r.2) A1.rel vd hi
  refine ⟨m1,_,r.1,r.2,a,vs,r.2,A1.rel,ev,sq,vds,rfl,fun m2 H2 p ws A2 hp n1 n2 n3 vw=>?_⟩
  have hn:H p=none:=by
   cases eh:H p with
   | none=>rfl
   | some o=>
    by_cases hm:p ∈ m
    ·exact absurd rfl (n2 p (A1.ext.pre.subset hm))
    ·have:=A1.ext.keep p o eh hm
     rw [n3] at this;cases this
  exact q m2 H2 p ws (A1.trans A2) hp n1 (fun b hb=>n2 b (A1.ext.pre.subset hb)) hn vw
theorem yA {x:XA} {σ:L2.St} {H:Hp} {Q:VK} {K:PySem.W.Frag} (h:eI K x σ H Q):tUn (rTm K fun _ ds=>some ds) (eI K x) σ H Q:=by
 obtain ⟨m,ρ,S,ds,S',E,R,e,q⟩:=h
 refine ⟨m,ρ,S,ds,S',E,R,e,fun m1 H1 a vs A1 ha na _ _ vd=>?_⟩
 refine ⟨m1,_,false,ds,a,vs,ds,A1.rel,rfl,show SqL K H1 a vs from SqL.of ha,vd,rfl,fun m2 H2 p ws A2 hp n1 n2 n3 vw=>?_⟩
 have hn:H p=none:=by
  cases eh:H p with
  | none=>rfl
  | some o=>
   by_cases hm:p ∈ m
   ·exact absurd rfl (n2 p (A1.ext.pre.subset hm))
   ·have:=A1.ext.keep p o eh hm
    rw [n3] at this;cases this
 exact q m2 H2 p ws (A1.trans A2) hp n1 (fun b hb=>n2 b (A1.ext.pre.subset hb)) hn vw
noncomputable def ifT (C:Calls) (ar:Nat->Nat) (n:Nat) (K:PySem.W.Frag):Option CE->TT
 | none=>Aw
 | some c=>tT K (evT C ar n c)
theorem ld (ih:Snd T C ar k n) (G:CtxOk T C ar k b X) {ifs:List Expr} {cond:Option CE} (h:yy (fK T n b) ifs cond=true):PTs X ifs (ifT C ar n X.K cond):=by
 cases cond with
 | none=>rw [gX h];exact Ax
 | some c=>obtain ⟨e,rfl,h⟩:=jW h;exact Ay (ih.t b X e c G h)
theorem sx {K:PySem.W.Frag} {cond:Option CE} {acc:Addr} {c:XA} {D:Ends} {σ:L2.St} {H:Hp} (q:tCl K acc (cnd (evT C ar n) cond c) D σ H):fh (ifT C ar n K cond) (tCl K acc c) D σ H:=by
 cases cond with
 | none=>exact FL q
 | some c=>exact Bh q
theorem ql (ih:Snd T C ar k n) (G:CtxOk T C ar k b X) {l:Option Expr} {lo:Option CE} (h:yx (aH T n b) l lo=true):PO X l (tOI X.K (opt (evE C ar n) lo)):=by
 cases lo with
 | none=>
  cases l with
  | none=>exact PO.imp An fun σ H Q q=>AS q
  | some _=>cases h
 | some c=>obtain ⟨e,rfl,h⟩:=yo h;exact PO.imp (Ao (ih.e b X e c G h)) fun σ H Q q=>AU q
theorem F2 (ih:Snd T C ar k n) (e:Expr) (gs:List Comprehension) (elt:CE) (cls:List Cl) (G:CtxOk T C ar k b X) (h:mU T (n+1) b e gs elt cls=true) (gens:List Comprehension) (scope:Scope) (pos:Pos) (acc:Addr) (d:Nat) (hd:gens.drop (d+1)=gs) :
  PTl X e gens scope pos acc d (tCl X.K acc (gD C ar (n+1) elt cls)):=by
 have imp:∀ {t t':TS},PTl X e gens scope pos acc d t->(∀ D σ H,t' D σ H->t D σ H)->PTl X e gens scope pos acc d t':=fun h f pins s σ H D I q=>h pins s σ H D I (f D σ H q)
 cases cls with
 | nil=>
  obtain ⟨h0,h⟩:=an2 h
  cases gX h0
  have hn:gens[d+1]?=none:=by
   have:=congrArg List.length hd
   simp at this
   exact List.getElem?_eq_none_iff.mpr (by omega)
  exact imp (w5 G.xe hn (ih.e b X e elt G h)) fun D σ H q=>Bg q
 | cons g rest=>
  obtain ⟨tg,it,cond⟩:=g
  obtain ⟨⟨t,i,ifs,as⟩,gs',rfl,h⟩:=fI h
  obtain ⟨h0,h1,h2,h3,h4⟩:=an5 h
  cases of_decide_eq_true h0
  have hn:gens[d+1]?=some ⟨t,i,ifs,0⟩:=by
   have:=congrArg (·[0]?) hd
   simpa using this
  have hd':gens.drop (d+1+1)=gs':=by
   have:=congrArg (List.drop 1) hd
   simpa [List.drop_drop] using this
  have hpl:=gu h1 (fun e he env=>eT he) X.env
  exact imp (Az hn (ih.i [acc] b X t i it G h1) (gw G h2) (ld ih G h3) (ih.cl b X e gs' elt rest G h4 gens scope pos acc (d+1) hd') G.xe G.calm hpl) fun D σ H q=>x6 (fun D σ H z=>sx z) q
theorem J8 (ih:Snd T C ar k n) (B:List Addr) (t e:Expr) (c:CI) (G:CtxOk T C ar k b X) (h:qi T (n+1) b t e c=true):PI X t e (tIt X.K B (evI C ar (n+1) c)):=by
 cases c with
 | val a=>
  have h:=an2 h
  show PI X t _ (tIt X.K B (if ai a=true then xIT (cu C ar n a) else xIV (evE C ar n a)))
  split
  ·rename_i ht
   exact PI.imp (sW (ih.tm b X _ a G ht h.1)) fun σ H R q=>Ma q
  ·exact PI.imp (PI.or (sW (ih.e b X _ a G h.1)) (ED (ih.e b X _ a G h.1))) fun σ H R q=>L9 q
 | r1 a=>
  obtain ⟨x,p,q,rfl,h2,h3,h4⟩:=bo h
  exact PI.imp (uE (G.gl h2).1 (G.bl _ (by decide)) (cv (ih.e b X x a G h3) h4) (aq h4)) fun σ H R q=>JT q
 | r2 a c=>
  obtain ⟨x,y,p,q,rfl,h2,h3,h4,h5,h6⟩:=fJ h
  exact PI.imp (uF (G.gl h2).1 (G.bl _ (by decide)) (fL (ih.e b X x a G h3) (cv (ih.e b X y c G h5) h6) h4) (by rw [aq h4,aq h6];rfl) (aq h6)) fun σ H R q=>JU q
 | zp a c=>
  have h:=an2 h
  obtain ⟨x,y,p,q,rfl,h2,h3,h4,h5,h6⟩:=fJ h.1
  obtain ⟨elts,x1,tp,rfl,_⟩:=su h.2
  exact PI.imp (FE (G.gl h2).1 (G.bl _ (by decide)) (fL (ih.e b X x a G h3) (cv (ih.e b X y c G h5) h6) h4) (by rw [aq h4,aq h6];rfl) (aq h6)) fun σ H R q=>FG q
 | en a=>
  have h:=an2 h
  obtain ⟨x,p,q,rfl,h2,h3,h4⟩:=bo h.1
  obtain ⟨elts,x1,tp,rfl,_⟩:=su h.2
  show PI X _ _ (tIt X.K B (if ai a=true then xET (cu C ar n a) else xEV (evE C ar n a)))
  split
  ·rename_i ht
   exact PI.imp (xf (G.gl h2).1 (G.bl _ (by decide)) (cv (ih.tm b X x a G ht h3) h4) (aq h4)) fun σ H R q=>JS q
  ·exact PI.imp (PI.or (xf (G.gl h2).1 (G.bl _ (by decide)) (cv (ih.e b X x a G h3) h4) (aq h4)) (Fa (G.gl h2).1 (G.bl _ (by decide)) (cv (ih.e b X x a G h3) h4) (aq h4))) fun σ H R q=>JR q
end
end Ev
namespace Ev
open PySem PySem.Spec PyProof.Rows L2
section
variable {T:Tab} {C:Calls} {ar:Nat->Nat} {k n:Nat} {b:Blk} {X:Cx}
theorem qm {k:Nat} {A:Around} (r:Room k A):A.units+64 < cLine:=r.units
theorem iH (K:PySem.W.Frag) (m:List Addr) (H:Hp):∀ l:List Nat,VDs K m H (l.map fun j=>D.int (Int.ofNat j)) (l.map fun (j:Nat)=>V.int j)
 | []=>by rw [List.map_nil,List.map_nil,VDs]
 | a::l=>by rw [List.map_cons,List.map_cons,VDs];exact ⟨_,_,rfl,bm,iH K m H l⟩
theorem oM {es:List Expr} {a:CE} (h:fw T n b es [a]=true):∃ y,es=[y]:=by
 cases n with
 | zero=>exact absurd h Bool.false_ne_true
 | succ n=>
  obtain ⟨e,es,rfl,h⟩:=fI h
  have h:=(an2 h).2
  cases n with
  | zero=>exact absurd h Bool.false_ne_true
  | succ n=>cases gX h;exact ⟨e,rfl⟩
theorem Bp (ih:Snd T C ar k n) {own:List Str} {elt:CE} {tg:Tg} {it:CI} {cond:Option CE} {rest:List Cl} {e t i:Expr} {ifs:List Expr} {gs:List Comprehension} {scope:Scope} {pos:Pos} (G:CtxOk T C ar k b X)
  (h0:cmB own (k7 own b.N) b.N scope b.sc=true) (h1:qi T n b t i it=true) (h2:sj (b.inner own scope) t tg=true) (h3:yy (fK T n (b.inner own scope)) ifs cond=true) (h4:mU T n (b.inner own scope) e gs elt rest=true) :
  PE X (.ListComp e (⟨t,i,ifs,0⟩::gs) scope pos) (eI X.K (kT own.length (evI C ar n it) tg (cnd (evT C ar n) cond (gD C ar n elt rest)) LF)):=by
 have S:CmScope own (k7 own b.N) b.N scope b.sc:=xg _ h0
 have S':CmScope own (k7 own b.N) X.N scope X.env.scope:=by rw [G.hN,G.hs];exact S
 have hpl:=gu h1 (fun e he env=>eT he) X.env
 refine PE.imp (AA (g:=tTg X.K tg) (ti:=ifT C ar n X.K cond) (t:=fun acc=>tCl X.K acc (gD C ar n elt rest)) G.calm S' (ih.i [] b X t i it G h1) (fun C' ex s H=>gw (G.inner S (C':=C') (ex:=ex) (s:=s) (H:=H)) h2) (fun C' ex s H=>ld ih (G.inner S (C':=C') (ex:=ex) (s:=s) (H:=H)) h3)
  (fun C' ex s H acc=>ih.cl _ _ e gs elt rest (G.inner S (C':=C') (ex:=ex) (s:=s) (H:=H)) h4 _ scope pos acc 0 rfl) hpl) fun σ H Q q=>?_
 exact tO (fun acc D σ H z=>sx z) q
theorem F3 {x:XE} {σ:L2.St} {H:Hp} {Q:VK} {K:PySem.W.Frag} (h:eI K (vL x) σ H Q):tE K x σ H fun v H1=>∃ i:Nat,v = .int i/\i<=1000/\∀ p,H1 p=none->∀ l,upd H1 p (.rng 0 i) l=none->Q (.ref l) (upd (upd H1 p (.rng 0 i)) l (.lst ((List.range i).map fun (j:Nat)=>V.int j))):=by
 obtain ⟨m,ρ,S,ds,S',E,R,e,q⟩:=h
 obtain ⟨d,S1,e1,e⟩:=ab e
 cases d with
 | int i=>
  dsimp only at e
  split at e
  ·rename_i hi
   cases e
   refine ⟨m,ρ,S,.int i,_,E,R,e1,fun m1 H1 v A1 vd=>⟨i.toNat,by rw [vd.ints];congr 1;omega,by omega,fun p hp l hl=>?_⟩⟩
   have A2:Aft K m1 H1 S' m1 (upd H1 p (.rng 0 i.toNat)):=⟨Ext.beside A1.rel hp _,A1.rel.beside hp _⟩
   have A3:Aft K m1 (upd H1 p (.rng 0 i.toNat)) S' m1 (upd (upd H1 p (.rng 0 i.toNat)) l (.lst ((List.range i.toNat).map fun (j:Nat)=>V.int j))):=⟨Ext.beside A2.rel hl _,A2.rel.beside hl _⟩
   have nl:l ∉ m1:=A2.rel.no hl
   have n1:H1 l=none:=by
    cases hh:H1 l with
    | none=>rfl
    | some o=>rw [(Ext.beside A1.rel hp (.rng 0 i.toNat)).keep l o hh nl] at hl;cases hl
   have nH:H l=none:=by
    cases hh:H l with
    | none=>rfl
    | some o=>
     by_cases hm:l ∈ m
     ·exact absurd (A1.ext.pre.subset hm) nl
     ·rw [A1.ext.keep l o hh hm] at n1;cases n1
   refine q m1 _ l _ (A1.trans (A2.trans A3)) bf nl (fun b hb z=>nl (z ▸ A1.ext.pre.subset hb)) nH ?_
   exact iH _ _ _ _
  ·cases e
 | _=>cases e
theorem F4 {f:Bool->List D->Option (List D)} {x:XE} {σ:L2.St} {H:Hp} {Q:VK} {K:PySem.W.Frag} (h:eI K (vK f x) σ H Q):tUn (rTm K f) (tE K x) σ H Q:=by
 obtain ⟨m,ρ,S,ds,S',E,R,e,q⟩:=h
 obtain ⟨d,S1,e1,e⟩:=ab e
 cases hi:ak d S1 with
 | none=>rw [hi] at e;cases e
 | some r=>
  rw [hi] at e
  dsimp only at e
  cases hf:f r.1 r.2 with
  | none=>rw [hf] at e;cases e
  | some es=>
  rw [hf] at e
  cases e
  refine ⟨m,ρ,S,d,_,E,R,e1,fun m1 H1 v A1 vd=>?_⟩
  obtain ⟨a,vs,ev,sq,vds⟩:=dS (tu:=r.1) (ds:=r.2) A1.rel vd hi
  refine ⟨m1,_,r.1,r.2,a,vs,ds,A1.rel,ev,sq,vds,hf,fun m2 H2 p ws A2 hp n1 n2 n3 vw=>?_⟩
  have hn:H p=none:=by
   cases eh:H p with
   | none=>rfl
   | some o=>
    by_cases hm:p ∈ m
    ·exact absurd rfl (n2 p (A1.ext.pre.subset hm))
    ·have:=A1.ext.keep p o eh hm
     rw [n3] at this;cases this
  exact q m2 H2 p ws (A1.trans A2) hp n1 (fun b hb=>n2 b (A1.ext.pre.subset hb)) hn vw
theorem F5 {f:Bool->List D->Option (List D)} {x:XA} {σ:L2.St} {H:Hp} {Q:VK} {K:PySem.W.Frag} (h:eI K (vJ f x) σ H Q):tUn (rTm K f) (eI K x) σ H Q:=by
 obtain ⟨m,ρ,S,es,S',E,R,e,q⟩:=h
 obtain ⟨ds,S1,e1,e⟩:=ab e
 cases hf:f false ds with
 | none=>rw [hf] at e;cases e
 | some es'=>
 rw [hf] at e
 cases e
 refine ⟨m,ρ,S,ds,_,E,R,e1,fun m1 H1 a vs A1 ha na _ _ vd=>?_⟩
 refine ⟨m1,_,false,ds,a,vs,es,A1.rel,rfl,show SqL K H1 a vs from SqL.of ha,vd,hf,fun m2 H2 p ws A2 hp n1 n2 n3 vw=>?_⟩
 have hn:H p=none:=by
  cases eh:H p with
  | none=>rfl
  | some o=>
   by_cases hm:p ∈ m
   ·exact absurd rfl (n2 p (A1.ext.pre.subset hm))
   ·have:=A1.ext.keep p o eh hm
    rw [n3] at this;cases this
 exact q m2 H2 p ws (A1.trans A2) hp n1 (fun b hb=>n2 b (A1.ext.pre.subset hb)) hn vw
theorem yB (ih:Snd T C ar k n) (e:Expr) (c:CE) (G:CtxOk T C ar k b X) (ht:ai c=true) (h:aH T (n+1) b e c=true):PE X e (eI X.K (cu C ar (n+1) c)):=by
 cases c with
 | lst cs=>
  obtain ⟨es,p,rfl,hh⟩:=FY h
  exact PE.imp (ES (ih.a b X es cs G hh)) fun σ H Q q=>AM q
 | listOf a=>
  obtain ⟨x,p,q,rfl,h2,h3,h4⟩:=bo h
  show PE X _ (eI X.K (if ai a=true then cu C ar n a else kU (evE C ar n a)))
  split
  ·rename_i ht
   exact PE.imp (oJ kH G h2 (by decide) PyProof.Rows.boot_list (by decide) (ih.tm b X x a G ht h3) h4) fun σ H Q q=>yA q
  ·exact PE.imp (oJ kH G h2 (by decide) PyProof.Rows.boot_list (by decide) (ih.e b X x a G h3) h4) fun σ H Q q=>yz q
 | listR a=>
  obtain ⟨x,p,q,rfl,h2,h3,h4⟩:=bo h
  obtain ⟨y,p',q',rfl,h5,h6,h7⟩:=bo h3
  exact PE.imp (iZ (nS G.calm) (G.gl h2).1 (G.bl _ (by decide)) PyProof.Rows.boot_list (cv (iZ pJ (G.gl h5).1 (G.bl _ (by decide)) PyProof.Rows.boot_range (cv (ih.e b X y a G h6) h7) (by decide) (G.gl h5).2 (aq h7) rfl) h4) (by decide) (G.gl h2).2 (aq h4) rfl) fun σ H Q q=>oK (F3 q) fun v H1 ⟨i,ev,hi,z⟩=>by
    subst ev
    exact ⟨i,rfl,fun p hp=>⟨p,i,rfl,bf,hi,fun l hl=>z p hp l hl⟩⟩
 | srt a=>
  obtain ⟨x,p,q,rfl,h2,h3,h4⟩:=bo h
  show PE X _ (eI X.K (if ai a=true then vJ cD (cu C ar n a) else vK cD (evE C ar n a)))
  split
  ·rename_i ht
   exact PE.imp (iG mQ G h2 (by decide) PyProof.Rows.boot_sorted (by decide) (ih.tm b X x a G ht h3) h4) fun σ H Q q=>F5 (f:=cD) q
  ·exact PE.imp (iG mQ G h2 (by decide) PyProof.Rows.boot_sorted (by decide) (ih.e b X x a G h3) h4) fun σ H Q q=>F4 (f:=cD) q
 | comp own elt cls=>
  obtain ⟨tg,it,cond,rest,rfl,hc⟩:=DZ h
  obtain ⟨el,t,i,ifs,gs,scope,p,rfl,hh⟩:=tU hc
  obtain ⟨h0,h1,h2,h3,h4⟩:=an5 hh
  exact Bp ih G h0 h1 h2 h3 h4
 | _=>cases ht
theorem j9 {y:Expr} {pos:Pos} (h:aG y=true):((backTo pos (starEach [y] X.env)).all (fun x=>!x.1) && (backToKw pos (keywordEach [] X.env)).all (fun x=>x.1.isSome) && decide (([y]:List Expr).length+([]:List Keyword).length+(if ([]:List Keyword).isEmpty then 0 else 1) < 30))=true:=by
 rw [aq h];rfl
theorem J9 (ih:Snd T C ar k n) (e:Expr) (c:CE) (G:CtxOk T C ar k b X) (h:aH T (n+1) b e c=true):PE X e (tE X.K (evE C ar (n+1) c)):=by
 have hu:=qm G.room
 have tmp:ai c=true->evE C ar (n+1) c=dF (cu C ar (n+1) c)->PE X e (tE X.K (evE C ar (n+1) c)):=fun ht he=>by
  rw [he]
  exact PE.imp (yB ih e c G ht h) fun σ H Q q=>pR q
 cases c with
 | non=>obtain ⟨_,_,rfl⟩:=FW h;exact PE.imp Ep fun σ H Q q=>xv (fun _ _=>n6) q
 | bl v=>obtain ⟨_,_,rfl⟩:=J4 h;exact PE.imp I8 fun σ H Q q=>xv (fun _ _=>bN) q
 | int v=>obtain ⟨_,_,rfl⟩:=yt h;exact PE.imp wp fun σ H Q q=>xv (fun _ _=>bm) q
 | str v=>obtain ⟨_,_,rfl⟩:=FX h;exact PE.imp Er fun σ H Q q=>xv (fun _ _=>rD) q
 | var i=>
  obtain ⟨x,p,rfl,hh⟩:=oE h
  have hh:=an2 hh
  have v:=G.vis hh.2
  exact PE.imp (Eo (i:=i) (by rw [G.hN];exact eq_of_beq hh.1) v.1 v.2.1 v.2.2) fun σ H Q q=>Fh q
 | con k' v=>
  obtain ⟨x,p,rfl,hh⟩:=oE h
  have hh:=an2 hh
  have g:=G.gl hh.2
  obtain ⟨tk,hm⟩:=G.con k' x v (eq_of_beq hh.1)
  exact PE.imp (zZ (v:=.int v) g.1 hm ⟨tk,rfl⟩ g.2) fun σ H Q q=>xv (fun _ _=>bm) q
 | tup cs=>obtain ⟨es,_,_,rfl,hh⟩:=su h;exact PE.imp (ER (ih.a b X es cs G hh)) fun σ H Q q=>Fj q
 | lst cs=>exact tmp rfl rfl
 | bin o a c'=>obtain ⟨l,r,p,rfl,h2,h3⟩:=FZ h;exact PE.imp (Jn (AR o) (ih.e b X l a G h2) (ih.e b X r c' G h3)) fun σ H Q q=>n5 q
 | neg a=>obtain ⟨x,p,rfl,hh⟩:=F0 h;exact PE.imp (Jo Bi (ih.e b X x a G hh)) fun σ H Q q=>JH q
 | cmp o a c'=>obtain ⟨l,r,p,rfl,h2,h3,h4⟩:=yv h;exact PE.imp (Af (gk hu o) (ih.e b X l a G h2) (ih.e b X r c' G h3) (gY h4)) fun σ H Q q=>n5 q
 | chn o p' a c' d=>obtain ⟨l,r,s,p,rfl,h2,h3,h4,h5⟩:=yw h;exact PE.imp (wL (gk hu o) (gk hu p') (ih.e b X l a G h2) (ih.e b X r c' G h3) (ih.e b X s d G h4) (k9 h5)) fun σ H Q q=>yb q
 | and a c'=>
  rcases Bl h with h | h
  ·obtain ⟨x,y,p,rfl,h1,h2⟩:=oG h;exact PE.imp (ww (ih.e b X x a G h1) (wu (ih.e b X y c' G h2))) fun σ H Q q=>x9 q
  ·obtain ⟨x,y,z,ys,p,rfl,h1,h2⟩:=oH h;exact PE.imp (ww (ih.e b X x a G h1) (ih.e b X _ c' G h2)) fun σ H Q q=>x9 q
 | or a c'=>
  rcases Bl h with h | h
  ·obtain ⟨x,y,p,rfl,h1,h2⟩:=oG h;exact PE.imp (Dz (ih.e b X x a G h1) (wu (ih.e b X y c' G h2))) fun σ H Q q=>DS q
  ·obtain ⟨x,y,z,ys,p,rfl,h1,h2⟩:=oH h;exact PE.imp (Dz (ih.e b X x a G h1) (ih.e b X _ c' G h2)) fun σ H Q q=>DS q
 | not a=>obtain ⟨x,p,rfl,hh⟩:=yu h;exact PE.imp (Eu (ih.e b X x a G hh)) fun σ H Q q=>FN q
 | ix a c'=>
  obtain ⟨x,y,p,rfl,h1,h2,h3⟩:=J5 h
  show PE X _ (tE X.K (if ai a=true then rG (cu C ar n a) (evE C ar n c') else pO ixS (evE C ar n a) (evE C ar n c')))
  split
  ·rename_i ht
   exact PE.imp (DJ wV (ih.tm b X x a G ht h1) (ih.e b X y c' G h2) (qj h3)) fun σ H Q q=>Fv q
  ·exact PE.imp (DJ L7 (ih.e b X x a G h1) (ih.e b X y c' G h2) (qj h3)) fun σ H Q q=>n5 q
 | sl a lo hi=>obtain ⟨x,y,z,p,p',rfl,h1,h2,h3⟩:=J6 h;exact PE.imp (wR L8 (ih.e b X x a G h1) (ql ih G h2) (ql ih G h3)) fun σ H Q q=>JK q
 | call f cs=>
  obtain ⟨x,e,es,p,p',rfl,h12,h3⟩:=Bn (k:=fun x=>oA T.fns[f]? (fun y=>y.1 == x) && b.glo x) (l:=fun es=>fw T n b es cs) (e:=e) h
  obtain ⟨h1,h2⟩:=an2 h12
  ·obtain ⟨y,hy,h1⟩:=yo h1
   have hx:=tV h1
   subst hx
   obtain ⟨ha,fa,fd,ps,hm,hk,hb,F⟩:=G.fns f y hy
   have hpl:=bz h3
   have g:=G.gl h2
   exact PE.imp (Ak F G.room g.1 hm hk hb .nil JE (ih.a b X (e::es) cs G h3) g.2 (aq (hpl e List.mem_cons_self)) (je fun e he=>hpl e (List.mem_cons_of_mem _ he))) fun σ H Q q=>Bj q
 | inst t a=>
  obtain ⟨x,y,p,p',rfl,h2,h5,h6,h7,_⟩:=fJ h
  obtain ⟨y,p'',rfl,h8⟩:=oE h7
  obtain ⟨h3,h4⟩:=an2 h8
  have hy:=tV h3
  subst hy
  have ty:PE X (.Name (Str.ofString t.nm) p'') (tC (.ty t.nm)):=by
   have g:=G.gl h4
   cases t with
   | int=>exact ik g.1 (G.bl _ (by decide)) PyProof.Rows.boot_int rfl (by decide) g.2
   | bool=>exact ik g.1 (G.bl _ (by decide)) PyProof.Rows.boot_bool rfl (by decide) g.2
   | tuple=>exact ik g.1 (G.bl _ (by decide)) PyProof.Rows.boot_tuple rfl (by decide) g.2
   | list=>exact ik g.1 (G.bl _ (by decide)) PyProof.Rows.boot_list rfl (by decide) g.2
   | str=>exact ik g.1 (G.bl _ (by decide)) PyProof.Rows.boot_str rfl (by decide) g.2
  exact PE.imp (im (nT X.K) (G.gl h2).1 (G.bl _ (by decide)) PyProof.Rows.boot_isinstance (fL (ih.e b X x a G h5) (cv ty rfl) h6) (by decide) (G.gl h2).2 (aq h6) rfl) fun σ H Q q=>AY q
 | len a=>obtain ⟨x,p,p',rfl,h2,h3,h4⟩:=bo h;exact lc ih G (fun te z=>iG vo G h2 (by decide) PySem.boot_len (by decide) z h4) h3
 | all a=>obtain ⟨x,p,p',rfl,h2,h3,h4⟩:=bo h;exact lc ih G (fun te z=>iG (vt G.calm) G h2 (by decide) PyProof.Rows.boot_all (by decide) z h4) h3
 | mxL a=>obtain ⟨x,p,p',rfl,h2,h3,h4⟩:=bo h;exact lc ih G (fun te z=>iG (vD G.calm) G h2 (by decide) PyProof.Rows.boot_max (by decide) z h4) h3
 | mxD a c=>
  obtain ⟨x,p,q,j,p',q',rfl,h2,h3,h4⟩:=Bo h
  exact lc ih G (fun te z=>PE.imp (FA G.calm (G.gl h2).1 (G.bl _ (by decide)) (G.gl h2).2 (cv z h4) (aq h4)) fun σ H Q q=>q) h3
 | tupOf a=>obtain ⟨x,p,p',rfl,h2,h3,h4⟩:=bo h;exact lc ih G (fun te z=>oJ vq G h2 (by decide) PyProof.Rows.boot_tuple (by decide) z h4) h3
 | listOf a=>exact tmp rfl rfl
 | listR a=>exact tmp rfl rfl
 | srt a=>exact tmp rfl rfl
 | mx a c'=>
  obtain ⟨x,es,p,p',rfl,h2,h3⟩:=qh (b:=b) (f := "max") (k:=fun es=>fw T n b es [a,c']) (e:=e) h
  have hpl:=bz h3
  exact PE.imp (im (rO G.calm) (G.gl h2).1 (G.bl _ (by decide)) PyProof.Rows.boot_max (ih.a b X (x::es) [a,c'] G h3) (by decide) (G.gl h2).2 (aq (hpl x List.mem_cons_self)) (je fun e he=>hpl e (List.mem_cons_of_mem _ he))) fun σ H Q q=>xu q
 | mn a c'=>
  obtain ⟨x,es,p,p',rfl,h2,h3⟩:=qh (b:=b) (f := "min") (k:=fun es=>fw T n b es [a,c']) (e:=e) h
  have hpl:=bz h3
  exact PE.imp (im (rP G.calm) (G.gl h2).1 (G.bl _ (by decide)) PyProof.Rows.boot_min (ih.a b X (x::es) [a,c'] G h3) (by decide) (G.gl h2).2 (aq (hpl x List.mem_cons_self)) (je fun e he=>hpl e (List.mem_cons_of_mem _ he))) fun σ H Q q=>xu q
 | comp own elt cls=>exact tmp rfl rfl
 | app o a=>
  obtain ⟨x,ap,es,p,rfl,h2,h3,h4,h5⟩:=oI h
  obtain ⟨y,rfl⟩:=oM h5
  have hpl:=bz h5 y (by simp)
  exact PE.imp (tx PySem.F.plainAttrs_list PySem.F.slot_list_append PySem.F.type_list_append FC (ih.e b X x o G h4) (ih.a b X [y] [a] G h5) (eU h2) (j9 hpl) h3 (aq hpl) rfl) fun σ H Q q=>oq (fun R vd c=>sd R vd c) q
 | ext o a=>
  obtain ⟨x,ap,es,p,rfl,h2,h3,h4,h5⟩:=oI h
  obtain ⟨y,rfl⟩:=oM h5
  have hpl:=bz h5 y (by simp)
  exact PE.imp (tx PySem.F.plainAttrs_list PySem.F.slot_list_extend PySem.F.type_list_extend A7 (ih.e b X x o G h4) (ih.a b X [y] [a] G h5) (eU h2) (j9 hpl) h3 (aq hpl) rfl) fun σ H Q q=>oq (fun R vd c=>sd R vd c) q
 | popAt o a=>
  obtain ⟨x,ap,es,p,rfl,h2,h3,h4,h5⟩:=oI h
  obtain ⟨y,rfl⟩:=oM h5
  have hpl:=bz h5 y (by simp)
  exact PE.imp (tx PySem.F.plainAttrs_list PySem.F.slot_list_pop PySem.F.type_list_pop vG (ih.e b X x o G h4) (ih.a b X [y] [a] G h5) (eU h2) (j9 hpl) h3 (aq hpl) rfl) fun σ H Q q=>oq (fun R vd c=>sd R vd c) q
 | cnt o a=>
  obtain ⟨x,ap,es,p,rfl,h2,h3,h4,h5⟩:=oI h
  obtain ⟨y,rfl⟩:=oM h5
  have hpl:=bz h5 y (by simp)
  exact PE.imp (tx PySem.F.plainAttrs_tuple PySem.F.slot_tuple_count PySem.F.type_tuple_count A6 (ih.e b X x o G h4) (ih.a b X [y] [a] G h5) (eU h2) (j9 hpl) h3 (aq hpl) rfl) fun σ H Q q=>oq (fun R vd c=>FB R vd c) q
end
end Ev
namespace Ev
open PySem PySem.Spec PyProof.Rows L2
section
variable {T:Tab} {C:Calls} {ar:Nat->Nat} {k n:Nat} {b:Blk} {X:Cx}
theorem tX {op:BoolOp} {vs:List Expr} {p:Pos} {t:TT} (h:PT X (.BoolOp op vs p) t):PW X (.BoolOp op vs p) t:=fun whole pins s σ H Q I q=>h pins s σ H Q I q
theorem Ka (ih:Snd T C ar k n) (e:Expr) (c:CE) (G:CtxOk T C ar k b X) (h:fK T (n+1) b e c=true):PT X e (tT X.K (evT C ar (n+1) c)):=by
 have hu:=qm G.room
 have dflt:evT C ar (n+1) c=AV (evE C ar n c)->(aH T n b e c && FQ e)=true->PT X e (tT X.K (evT C ar (n+1) c)):=fun e1 hh=>by
  rw [e1]
  have hh:=an2 hh
  exact PT.imp (wN (ih.e b X e c G hh.1) (sv hh.2)) fun σ H Q q=>Fx q
 cases c with
 | cmp o a c'=>obtain ⟨l,r,p,rfl,h2,h3,h4⟩:=yv h;exact PT.imp (Ag (gk hu o) (ih.e b X l a G h2) (ih.e b X r c' G h3) (gY h4)) fun σ H Q q=>n5 (JL (t:=tE X.K (evE C ar n a)) q)
 | chn o p' a c' d=>obtain ⟨l,r,s,p,rfl,h2,h3,h4,h5⟩:=yw h;exact PT.imp (wM (gk hu o) (gk hu p') (ih.e b X l a G h2) (ih.e b X r c' G h3) (ih.e b X s d G h4) (k9 h5)) fun σ H Q q=>yb (JL (t:=tE X.K (evE C ar n a)) q)
 | and a c'=>
  rcases Bl h with h | h
  ·obtain ⟨x,y,p,rfl,h1,h2⟩:=oG h;exact PT.imp (wq (ih.t b X x a G h1) (z6 (ih.t b X y c' G h2))).pt fun σ H Q q=>ye q
  ·obtain ⟨x,y,z,ys,p,rfl,h1,h2⟩:=oH h;exact PT.imp (wq (ih.t b X x a G h1) (tX (ih.t b X _ c' G h2))).pt fun σ H Q q=>ye q
 | or a c'=>
  rcases Bl h with h | h
  ·obtain ⟨x,y,p,rfl,h1,h2⟩:=oG h;exact PT.imp (Dv (ih.t b X x a G h1) (Es (ih.t b X y c' G h2))).pt fun σ H Q q=>DT q
  ·obtain ⟨x,y,z,ys,p,rfl,h1,h2⟩:=oH h;exact PT.imp (Dv (ih.t b X x a G h1) (tX (ih.t b X _ c' G h2))).pt fun σ H Q q=>DT q
 | not a=>obtain ⟨x,p,rfl,h1⟩:=yu h;exact PT.imp (Et (ih.t b X x a G h1)) fun σ H Q q=>FP q
 | _=>exact dflt rfl h
theorem snd:∀ n,Snd T C ar k n
 | 0=>⟨fun b X e c _ h=>absurd h Bool.false_ne_true,fun b X e c _ _ h=>absurd h Bool.false_ne_true,fun b X e c _ h=>absurd h Bool.false_ne_true,fun b X e c _ h=>absurd h Bool.false_ne_true,fun B b X t e c _ h=>absurd h Bool.false_ne_true,fun b X e gs elt cls _ h=>absurd h Bool.false_ne_true⟩
 | n+1=>⟨fun b X e c G h=>J9 (snd n) e c G h,fun b X e c G ht h=>yB (snd n) e c G ht h,fun b X es cs G h=>J7 (snd n) es cs G h,fun b X e c G h=>Ka (snd n) e c G h,fun B b X t e c G h=>J8 (snd n) B t e c G h,fun b X e gs elt cls G h=>F2 (snd n) e gs elt cls G h⟩
end
end Ev
namespace Ev
open PySem PySem.Spec PyProof.Rows L2
inductive CS where | asg (t:Tg) (e:CE) | setI (v o i:CE) | ex (e:CE) | ret (e:CE) | ifs (c:CE) (a b:List CS) | for_ (t:Tg) (it:CI) (b:List CS) | cnt | never
noncomputable def Bq:XS:=fun _ _=>none
mutual
noncomputable def evS (C:Calls) (ar:Nat->Nat):Nat->CS->XS
 | 0,_=>Bq
 | n+1,s=>match s with
  | .asg t e=>kS (evE C ar n e) t
  | .setI v o i=>qc (evE C ar n v) (evE C ar n o) (evE C ar n i)
  | .ex e=>qb (evE C ar n e)
  | .ret e=>xX (evE C ar n e)
  | .ifs c a b=>xIf (evT C ar n c) (gZ C ar n a) (gZ C ar n b)
  | .for_ t it b=>xY (evI C ar n it) t (gZ C ar n b) LF
  | .cnt=>JW
  | .never=>Bq
noncomputable def gZ (C:Calls) (ar:Nat->Nat):Nat->List CS->XS
 | 0,_=>Bq
 | n+1,ss=>match ss with
  | []=>DQ
  | s::ss=>xW (evS C ar n s) (gZ C ar n ss)
end
noncomputable def yC:Expr->Bool
 | .Starred _ _=>true
 | _=>false
noncomputable def gx (sc:Scope) (line:Nat) (ts:List Expr):List Str:=ts.filterMap fun
 | .Name id pos=>if sc.names.lookup id == some .local && pos.line == line then some id else none
 | _=>none
noncomputable def tY (sc:Scope) (ts vs:List Expr):Option (Option (List Str)):=
 if (!(ts.length == 2 || ts.length == 3) || vs.length != ts.length)=true then some none
 else if (vs.any yC)=true then some none
 else if ((gx sc ((ts.head?.map (·.pos.line)).getD 0) ts).length != ts.length || (gx sc ((ts.head?.map (·.pos.line)).getD 0) ts).eraseDups.length != (gx sc ((ts.head?.map (·.pos.line)).getD 0) ts).length)=true then some none
 else if (vs.all (foldedForSure 8))=true then some none
 else if (vs.all (constantsAlone 8))=true then none
 else some (some (gx sc ((ts.head?.map (·.pos.line)).getD 0) ts))
theorem Kb {sc:Scope} {ts vs:List Expr} {env:Env} {r:Option (List Str)} {k k2:Nat} {p p2:Pos} (hk:env.blockKind = .function) (hs:env.scope=sc) (h:tY sc ts vs=some r):swappedStores [.Tuple ts k p] (.Tuple vs k2 p2) env=pure r:=by
 unfold tY at h
 unfold swappedStores
 have e1:(vs.any fun | .Starred ..=>true | _=>false)=vs.any yC:=by
  congr 1
 have e2:(ts.filterMap fun
   | .Name id pos=>if env.kindOf id == some .local && pos.line == ((ts.head?.map (·.pos.line)).getD 0) then some id else none
   | _=>none)=gx sc ((ts.head?.map (·.pos.line)).getD 0) ts:=by
  unfold gx Env.kindOf
  rw [hs]
 have e3:(env.blockKind != .function)=false:=by rw [hk];rfl
 simp only [e3,Bool.or_false]
 split at h
 ·rename_i c1;rw [if_pos c1];cases h;rfl
 rename_i c1;rw [if_neg c1]
 split at h
 ·rename_i c2;cases h;exact if_pos (e1.trans c2)
 rename_i c2;refine Eq.trans (if_neg fun z=>c2 (e1.symm.trans z)) ?_
 split at h
 ·rename_i c3;cases h;rw [<-e2] at c3;exact if_pos c3
 rename_i c3;rw [<-e2] at c3 h;refine Eq.trans (if_neg c3) ?_
 split at h
 ·rename_i c4;cases h;exact if_pos c4
 rename_i c4;refine Eq.trans (if_neg c4) ?_
 split at h
 ·cases h
 rename_i c5;cases h;exact if_neg c5
noncomputable def yD:Expr->Option (Scope × Pos)
 | .ListComp _ _ s p=>some (s,p)
 | .SetComp _ _ s p=>some (s,p)
 | .DictComp _ _ _ s p=>some (s,p)
 | _=>none
noncomputable def swW (sc:Scope) (v:Expr) (t:Str) (pos:Pos):Bool:=match yD v with
 | none=>false
 | some (s,p)=>sc.names.lookup t == some .local && pos.line == p.line && !(s.names.any fun y=>y.1 == t && (y.2 == .local || y.2 == .cell))
theorem F6 {sc:Scope} {v:Expr} {t:Str} {pos:Pos} {line:Nat} {env:Env} (hk:env.blockKind = .function) (hs:env.scope=sc):swapsWith v (some (.Name t pos)) line env=pure (swW sc v t pos):=by
 unfold swapsWith swW yD
 have e3:(env.blockKind == .function)=true:=by rw [hk];rfl
 cases v <;> first | rfl | (simp only [e3,Bool.true_and,Env.kindOf,hs];rfl)
theorem qo {v tg:Expr} {line:Nat} {env:Env} (h:∀ x p,tg ≠ .Name x p):swapsWithSole [tg] v line env=pure false:=by
 show swapsWith v (some tg) line env=pure false
 unfold swapsWith
 cases v <;> first | rfl | (cases tg <;> first | rfl | (exact absurd rfl (h _ _)))
theorem tZ {v tg:Expr} {env:Env} (h:(∀ es k p,v ≠ .Tuple es k p)\/(∃ x p,tg = .Name x p)\/(∃ o i p,tg = .Subscript o i p)):swappedStores [tg] v env=pure none:=by
 unfold swappedStores
 rcases h with h | ⟨x,p,rfl⟩ | ⟨o,i,p,rfl⟩
 ·split
  ·rename_i e
   split at e
   ·exact absurd rfl (h _ _ _)
   ·exact absurd rfl (h _ _ _)
   ·cases e
  ·rfl
 ·rfl
 ·rfl
end Ev
namespace Ev
open PySem PySem.Spec PyProof.Rows L2
noncomputable def nmL:List Expr->Option (List Str)
 | []=>some []
 | e::es=>match yn e,nmL es with
  | some r,some xs=>some (r.1::xs)
  | _,_=>none
theorem fM {es:List Expr} {x:Str} {xs:List Str} (h:nmL es=some (x::xs)):∃ p es',es = .Name x p::es'/\nmL es'=some xs:=by
 cases es with
 | nil=>cases h
 | cons e es=>
  rw [nmL] at h
  split at h
  ·rename_i r ys h1 h2
   cases h
   exact ⟨_,es,by rw [oB h1],h2⟩
  ·cases h
theorem t0 {es:List Expr} (h:nmL es=some []):es=[]:=by
 cases es with
 | nil=>rfl
 | cons e es=>
  rw [nmL] at h
  split at h <;> cases h
noncomputable def tgL:List Tg->Option (List Nat)
 | []=>some []
 | .name i::ts=>match tgL ts with
  | some is=>some (i::is)
  | none=>none
 | .tup _::_=>none
theorem yE:∀ {ts:List Tg} {is:List Nat},tgL ts=some is->ts=is.map Tg.name
 | [],_,h=>by cases h;rfl
 | .name i::ts,is,h=>by
  rw [tgL] at h
  cases e:tgL ts with
  | none=>rw [e] at h;cases h
  | some js=>rw [e] at h;cases h;rw [yE e];rfl
 | .tup _::_,_,h=>by cases h
noncomputable def Kc (b:Blk) (ns:List Str) (is:List Nat):Bool:=match ns with
 | [x,y]=>(match is with
  | [i,j]=>b.N[i]? == some x && b.N[j]? == some y && i != j && b.sc.names.lookup x == some .local && b.sc.names.lookup y == some .local
  | _=>false)
 | [x,y,z]=>(match is with
  | [i,j,l]=>b.N[i]? == some x && b.N[j]? == some y && b.N[l]? == some z && i != j && i != l && j != l && b.sc.names.lookup x == some .local && b.sc.names.lookup y == some .local && b.sc.names.lookup z == some .local
  | _=>false)
 | _=>false
noncomputable def Mb (e:Expr):Bool:=jd e fun _ _ _ _=>true
noncomputable def Mc (e:Expr):Bool:=e.ctorIdx == 24
noncomputable def sy (T:Tab) (n:Nat) (b:Blk) (tg e:Expr) (t:Tg) (c:CE):Bool:=match t with
 | .name i=>(match yn tg with
  | some r=>aH T n b e c && b.N[i]? == some r.1 && b.own r.1 && (!(swW b.sc e r.1 r.2) || (Mb e && b.sc.names.lookup r.1 == some .local))
  | none=>false)
 | .tup gs=>(match vM tg with
  | some r=>aH T n b e c && (match vM e with
   | some q=>(match tY b.sc r.1 q.1 with
    | some none=>k8 b r.1 gs
    | some (some ns)=>(match tgL gs with
     | some is=>nmL r.1 == some ns && q.1.length == ns.length && Kc b ns is
     | none=>false)
    | none=>false)
   | none=>!(Mc e) && k8 b r.1 gs)
  | none=>false)
noncomputable def t5 (e:Stmt) (k:Option Expr->Pos->Bool):Bool:=if h:e.ctorIdx=3 then @Stmt.Return.elim (fun _=>Bool) e h k else false
theorem vN {e:Stmt} {k:Option Expr->Pos->Bool} (h:t5 e k=true):∃ x0 x1,e = .Return x0 x1/\k x0 x1=true:=by
 obtain ⟨h1,h⟩:=bU h
 exact Stmt.Return.elim (motive_2:=fun e=>∀ h',@Stmt.Return.elim (fun _=>Bool) e h' k=true->∃ x0 x1,e = .Return x0 x1/\k x0 x1=true) e h1 (fun x0 x1 _ hh=>⟨x0,x1,rfl,hh⟩) h1 h
noncomputable def oO (e:Stmt) (k:List Expr->Expr->Pos->Bool):Bool:=if h:e.ctorIdx=5 then @Stmt.Assign.elim (fun _=>Bool) e h k else false
theorem mX {e:Stmt} {k:List Expr->Expr->Pos->Bool} (h:oO e k=true):∃ x0 x1 x2,e = .Assign x0 x1 x2/\k x0 x1 x2=true:=by
 obtain ⟨h1,h⟩:=bU h
 exact Stmt.Assign.elim (motive_2:=fun e=>∀ h',@Stmt.Assign.elim (fun _=>Bool) e h' k=true->∃ x0 x1 x2,e = .Assign x0 x1 x2/\k x0 x1 x2=true) e h1 (fun x0 x1 x2 _ hh=>⟨x0,x1,x2,rfl,hh⟩) h1 h
noncomputable def Kd (e:Stmt) (k:Expr->Expr->List Stmt->List Stmt->Pos->Bool):Bool:=if h:e.ctorIdx=9 then @Stmt.For.elim (fun _=>Bool) e h k else false
theorem F7 {e:Stmt} {k:Expr->Expr->List Stmt->List Stmt->Pos->Bool} (h:Kd e k=true):∃ x0 x1 x2 x3 x4,e = .For x0 x1 x2 x3 x4/\k x0 x1 x2 x3 x4=true:=by
 obtain ⟨h1,h⟩:=bU h
 exact Stmt.For.elim (motive_2:=fun e=>∀ h',@Stmt.For.elim (fun _=>Bool) e h' k=true->∃ x0 x1 x2 x3 x4,e = .For x0 x1 x2 x3 x4/\k x0 x1 x2 x3 x4=true) e h1 (fun x0 x1 x2 x3 x4 _ hh=>⟨x0,x1,x2,x3,x4,rfl,hh⟩) h1 h
noncomputable def jIf (e:Stmt) (k:Expr->List Stmt->List Stmt->Pos->Bool):Bool:=if h:e.ctorIdx=12 then @Stmt.If.elim (fun _=>Bool) e h k else false
theorem Ke {e:Stmt} {k:Expr->List Stmt->List Stmt->Pos->Bool} (h:jIf e k=true):∃ x0 x1 x2 x3,e = .If x0 x1 x2 x3/\k x0 x1 x2 x3=true:=by
 obtain ⟨h1,h⟩:=bU h
 exact Stmt.If.elim (motive_2:=fun e=>∀ h',@Stmt.If.elim (fun _=>Bool) e h' k=true->∃ x0 x1 x2 x3,e = .If x0 x1 x2 x3/\k x0 x1 x2 x3=true) e h1 (fun x0 x1 x2 x3 _ hh=>⟨x0,x1,x2,x3,rfl,hh⟩) h1 h
noncomputable def D0 (e:Stmt) (k:Expr->Pos->Bool):Bool:=if h:e.ctorIdx=24 then @Stmt.Expr.elim (fun _=>Bool) e h k else false
theorem Br {e:Stmt} {k:Expr->Pos->Bool} (h:D0 e k=true):∃ x0 x1,e = .Expr x0 x1/\k x0 x1=true:=by
 obtain ⟨h1,h⟩:=bU h
 exact Stmt.Expr.elim (motive_2:=fun e=>∀ h',@Stmt.Expr.elim (fun _=>Bool) e h' k=true->∃ x0 x1,e = .Expr x0 x1/\k x0 x1=true) e h1 (fun x0 x1 _ hh=>⟨x0,x1,rfl,hh⟩) h1 h
noncomputable def mY (e:Stmt) (k:Pos->Bool):Bool:=if h:e.ctorIdx=27 then @Stmt.Continue.elim (fun _=>Bool) e h k else false
theorem qp {e:Stmt} {k:Pos->Bool} (h:mY e k=true):∃ x0,e = .Continue x0/\k x0=true:=by
 obtain ⟨h1,h⟩:=bU h
 exact Stmt.Continue.elim (motive_2:=fun e=>∀ h',@Stmt.Continue.elim (fun _=>Bool) e h' k=true->∃ x0,e = .Continue x0/\k x0=true) e h1 (fun x0 _ hh=>⟨x0,rfl,hh⟩) h1 h
noncomputable def oP (e:Expr):Bool:=e.ctorIdx == 8 || e.ctorIdx == 9 || e.ctorIdx == 10
noncomputable def Kf (k:Expr->Expr->Bool) (s:Stmt):Bool:=oO s fun ts v _=>l1 ts fun tg=>k tg v
noncomputable def D1 (k l m:Expr->Bool) (s:Stmt):Bool:=oO s fun ts z _=>l1 ts fun tg=>eO tg fun x y _=>k z && l x && m y && aG y
noncomputable def zEx (k:Expr->Bool) (s:Stmt):Bool:=D0 s fun v _=>k v && !(oP v)
noncomputable def Kg (k:Expr->Bool) (s:Stmt):Bool:=t5 s fun v _=>oA v k
noncomputable def zIf (k:Expr->Bool) (l m:List Stmt->Bool) (s:Stmt):Bool:=jIf s fun t p q _=>k t && l p && m q
noncomputable def Kh (k:Expr->Expr->Bool) (l:List Stmt->Bool) (s:Stmt):Bool:=Kd s fun tg i p q _=>q.isEmpty && k tg i && l p
noncomputable def Ki (s:Stmt):Bool:=mY s fun _=>true
section
variable {s:Stmt} {k l m:Expr->Bool}
theorem F8 {k:Expr->Expr->Bool} (h:Kf k s=true):∃ tg v p,s = .Assign [tg] v p/\k tg v=true:=by
 obtain ⟨ts,v,p,rfl,h⟩:=mX h;obtain ⟨tg,rfl,h⟩:=jW h;exact ⟨tg,v,p,rfl,h⟩
theorem Bs (h:D1 k l m s=true):∃ x y q z p,s = .Assign [.Subscript x y q] z p/\k z=true/\l x=true/\m y=true/\aG y=true:=by
 obtain ⟨ts,v,p,rfl,h⟩:=mX h;obtain ⟨tg,rfl,h⟩:=jW h;obtain ⟨x,y,q,rfl,h⟩:=eS h;exact ⟨x,y,q,v,p,rfl,an4 h⟩
theorem Kj (h:zEx k s=true):∃ v p,s = .Expr v p/\k v=true/\oP v=false:=by
 obtain ⟨v,p,rfl,h⟩:=Br h;obtain ⟨h1,h2⟩:=an2 h;exact ⟨v,p,rfl,h1,by cases e:oP v;rfl;rw [e] at h2;cases h2⟩
theorem F9 (h:Kg k s=true):∃ v p,s = .Return (some v) p/\k v=true:=by
 obtain ⟨v,p,rfl,h⟩:=vN h;obtain ⟨v,rfl,h⟩:=yo h;exact ⟨v,p,rfl,h⟩
theorem Kk {l m:List Stmt->Bool} (h:zIf k l m s=true):∃ t p q r,s = .If t p q r/\k t=true/\l p=true/\m q=true:=by
 obtain ⟨t,p,q,r,rfl,h⟩:=Ke h;exact ⟨t,p,q,r,rfl,an3 h⟩
theorem Ga {k:Expr->Expr->Bool} {l:List Stmt->Bool} (h:Kh k l s=true):∃ tg i p q,s = .For tg i p [] q/\k tg i=true/\l p=true:=by
 obtain ⟨tg,i,p,q,r,rfl,h⟩:=F7 h;obtain ⟨h1,z0⟩:=an3 h;cases gX h1;exact ⟨tg,i,p,r,rfl,z0⟩
theorem Gb (h:Ki s=true):∃ p,s = .Continue p:=by obtain ⟨p,rfl,_⟩:=qp h;exact ⟨p,rfl⟩
end
mutual
noncomputable def Kl (T:Tab):Nat->Blk->Stmt->CS->Bool
 | 0,_,_,_=>false
 | n+1,b,s,c=>match c with
  | .asg t e=>Kf (fun tg v=>sy T n b tg v t e) s
  | .setI v o i=>D1 (fun x=>aH T n b x v) (fun x=>aH T n b x o) (fun x=>aH T n b x i) s
  | .ex e=>zEx (fun x=>aH T n b x e) s
  | .ret e=>Kg (fun x=>aH T n b x e) s
  | .ifs c x y=>zIf (fun e=>fK T n b e c) (fun p=>mZ T n b p x) (fun p=>mZ T n b p y) s
  | .for_ t it x=>Kh (fun tg i=>qi T n b tg i it && sj b tg t) (fun p=>mZ T n b p x) s
  | .cnt=>Ki s
  | .never=>true
noncomputable def mZ (T:Tab):Nat->Blk->List Stmt->List CS->Bool
 | 0,_,_,_=>false
 | n+1,b,ss,cs=>match cs with
  | []=>ss.isEmpty
  | c::cs=>lC ss fun s ss=>Kl T n b s c && mZ T n b ss cs
end
section
variable {T:Tab} {C:Calls} {ar:Nat->Nat} {k n:Nat} {b:Blk} {X:Cx}
theorem Bt {es:List Expr} {cs:List CE} {k':Nat} {p:Pos} (h:aH T (n+1) b (.Tuple es k' p) (.tup cs)=true):fw T n b es cs=true:=h
theorem yF {es:List Expr} {c:CE} {k':Nat} {p:Pos} (h:aH T (n+1) b (.Tuple es k' p) c=true):∃ cs,c = .tup cs:=by
 cases c with
 | tup cs=>exact ⟨cs,rfl⟩
 | comp own elt cls=>
  cases cls with
  | nil=>exact absurd h Bool.false_ne_true
  | cons g rest=>obtain ⟨tg,it,cond⟩:=g;exact absurd h Bool.false_ne_true
 | _=>exact absurd h Bool.false_ne_true
theorem g5:∀ (ts:List Tg) (ds:List D) (ρ ρ':Rho),aF ts ds ρ=some ρ'->ts.length=ds.length
 | [],[],_,_,_=>rfl
 | [],_::_,_,_,e=>by simp [aF] at e
 | _::_,[],_,_,e=>by simp [aF] at e
 | t::ts,d::ds,ρ,ρ',e=>by
  simp only [aF] at e
  split at e
  ·simp [g5 _ _ _ _ e]
  ·cases e
theorem qq {K:PySem.W.Frag} {x:XA} {ts:List Tg} {D:Ends} {σ:L2.St} {H:Hp} (h:tSt K (kS (jS jT x) (.tup ts)) D σ H):tAr K x σ H fun vs H1=>∃ m1 ρ ρ' ds,EnvR K m1 H1 ρ σ/\VDs K m1 H1 ds vs/\aF ts ds ρ=some ρ'/\∀ σ',EnvR K m1 H1 ρ' σ'->D.nx σ' H1:=by
 obtain ⟨m,ρ,S,fl,ρ',S',E,R,e,q⟩:=h
 unfold kS at e
 cases hx:jS jT x ρ S with
 | none=>rw [hx] at e;cases e
 | some r=>
  rw [hx] at e
  obtain ⟨ds,S1,e1,e2⟩:=ab hx
  unfold jT at e2
  split at e2
  ·cases e2
   dsimp only at e
   simp only [ao] at e
   cases hb:aF ts ds ρ with
   | none=>rw [hb] at e;cases e
   | some ρ1=>
    rw [hb] at e
    cases e
    exact ⟨m,ρ,S,ds,_,E,R,e1,fun m1 H1 vs A1 vd=>⟨m1,ρ,_,ds,E.mono R A1.ext,vd,hb,fun σ' E'=>q m1 H1 A1 σ' E'⟩⟩
  ·cases e2
theorem qr {K:PySem.W.Frag} {x:XA} {σ:L2.St} {H:Hp} {Q Q':List V->Hp->Prop} (h:tAr K x σ H Q) (f:∀ v H',Q v H'->Q' v H'):tAr K x σ H Q':=by
 obtain ⟨m,ρ,S,d,S',E,R,e,q⟩:=h
 exact ⟨m,ρ,S,d,S',E,R,e,fun m' H' v A vd=>f _ _ (q m' H' v A vd)⟩
theorem lh {ρ ρ':Rho} {i:Nat} {d:D} (h:(if i < ρ.length then some (ρ.set i (some d)) else none)=some ρ'):ρ'=ρ.set i (some d):=by
 split at h
 ·cases h;rfl
 ·cases h
theorem Bu {K:PySem.W.Frag} {x:XA} {i j:Nat} {D:Ends} {σ:L2.St} {H:Hp} (h:tSt K (kS (jS jT x) (.tup [.name i,.name j])) D σ H):Jk i j (tAr K x) D σ H:=by
 refine qr (qq h) fun vs H1 ⟨m1,ρ,ρ',ds,E,vd,e,q⟩=>?_
 have hl:=g5 _ _ _ _ e
 match ds,hl with
 | [a,c],_=>
  obtain ⟨v,w,rfl,va,vc⟩:=rN vd
  refine ⟨v,w,rfl,q _ ?_⟩
  simp only [aF,ao] at e
  split at e
  ·rename_i r1 h1
   have:=lh h1
   subst this
   split at e
   ·rename_i r2 h2
    have:=lh h2
    subst this
    cases e
    exact (E.set va).set vc
   ·cases e
  ·cases e
theorem Md {K:PySem.W.Frag} {m:List Addr} {H:Hp} {a b c:D} {vs:List V} (h:VDs K m H [a,b,c] vs):∃ v w z,vs=[v,w,z]/\VD K m H a v/\VD K m H b w/\VD K m H c z:=by
 rw [VDs] at h
 obtain ⟨v,r,rfl,p,q⟩:=h
 obtain ⟨w,z,rfl,p',q'⟩:=rN q
 exact ⟨v,w,z,rfl,p,p',q'⟩
theorem Bv {K:PySem.W.Frag} {x:XA} {i j l:Nat} {D:Ends} {σ:L2.St} {H:Hp} (h:tSt K (kS (jS jT x) (.tup [.name i,.name j,.name l])) D σ H):DL i j l (tAr K x) D σ H:=by
 refine qr (qq h) fun vs H1 ⟨m1,ρ,ρ',ds,E,vd,e,q⟩=>?_
 have hl:=g5 _ _ _ _ e
 match ds,hl with
 | [a,c,d],_=>
  obtain ⟨v,w,z,rfl,va,vc,vd'⟩:=Md vd
  refine ⟨v,w,z,rfl,q _ ?_⟩
  simp only [aF,ao] at e
  split at e
  ·rename_i r1 h1
   have:=lh h1
   subst this
   split at e
   ·rename_i r2 h2
    have:=lh h2
    subst this
    split at e
    ·rename_i r3 h3
     have:=lh h3
     subst this
     cases e
     exact ((E.set va).set vc).set vd'
    ·cases e
   ·cases e
  ·cases e
theorem yG {e:Expr} {gs:List Comprehension} {scope:Scope} {p:Pos} {c:CE} (h:aH T (n+1) b (.ListComp e gs scope p) c=true):∃ own elt tg it cond rest t i ifs gs',c = .comp own elt (⟨tg,it,cond⟩::rest)/\gs=⟨t,i,ifs,0⟩::gs' ∧
  cmB own (k7 own b.N) b.N scope b.sc=true/\qi T n b t i it=true/\sj (b.inner own scope) t tg=true/\yy (fK T n (b.inner own scope)) ifs cond=true/\mU T n (b.inner own scope) e gs' elt rest=true:=by
 cases c with
 | comp own elt cls=>
  ·obtain ⟨tg,it,cond,rest,rfl,hc⟩:=DZ h
   obtain ⟨el,t,i,ifs,gs',scope',p',he,hh⟩:=tU hc
   cases he
   obtain ⟨h0,h1,h2,h3,h4⟩:=an5 hh
   exact ⟨own,elt,tg,it,cond,rest,t,i,ifs,gs',rfl,rfl,h0,h1,h2,h3,h4⟩
 | _=>exact absurd h Bool.false_ne_true
end
end Ev
namespace Ev
open PySem PySem.Spec PyProof.Rows L2
section
variable {T:Tab} {C:Calls} {ar:Nat->Nat} {k n:Nat} {b:Blk} {X:Cx}
theorem Bw (h:X.env.scope.kind = .function):X.env.blockKind = .function:=by
 unfold Env.blockKind
 rw [h];rfl
theorem Bx {α:Type} {l:List α} (h:l.length=2):∃ a b,l=[a,b]:=by
 match l,h with
 | [a,b],_=>exact ⟨a,b,rfl⟩
theorem vO {α:Type} {l:List α} (h:l.length=3):∃ a b c,l=[a,b,c]:=by
 match l,h with
 | [a,b,c],_=>exact ⟨a,b,c,rfl⟩
theorem Gc (G:CtxOk T C ar k b X) (hk:X.env.scope.kind = .function) {tg e:Expr} {t:Tg} {c:CE} {p:Pos} (h:sy T n b tg e t c=true):PS X (.Assign [tg] e p) (tSt X.K (kS (evE C ar n c) t)):=by
 have hb:=Bw hk
 unfold sy at h
 cases t with
 | name i=>
  dsimp only at h
  cases hx:yn tg with
  | none=>rw [hx] at h;cases h
  | some r=>
  obtain ⟨x,px⟩:=r
  rw [hx] at h
  rw [oB hx]
  simp only [bAE] at h
  obtain ⟨⟨⟨h1,h2⟩,h3⟩,h4⟩:=h
  have hi:X.N[i]?=some x:=by rw [G.hN];simpa using h2
  have nd:X.N.Nodup:=by rw [G.hN];exact G.nd
  have o:=G.own h3
  have sw:=F6 (sc:=b.sc) (v:=e) (t:=x) (pos:=px) (line:=p.line) hb G.hs
  cases hw:swW b.sc e x px with
  | false=>
   rw [hw] at sw
   exact PS.imp (EB nd hi o.1 ((snd n).e b X e c G h1) sw o.2) fun D σ H q=>oK (sh q) fun v H' z=>ou z
  | true=>
   rw [hw] at h4 sw
   simp only [Bool.not_true,Bool.false_or,bAE] at h4
   obtain ⟨h5,h4⟩:=h4
   obtain ⟨el,gs,scope,pp,rfl,_⟩:=jB h5
   ·cases n with
    | zero=>exact absurd h1 Bool.false_ne_true
    | succ n=>
     obtain ⟨own,elt,tg',it,cond,rest,tt,ii,ifs,gs',rfl,rfl,c0,c1,c2,c3,c4⟩:=yG h1
     have S:CmScope own (k7 own b.N) b.N scope b.sc:=xg _ c0
     have S':CmScope own (k7 own b.N) X.N scope X.env.scope:=by rw [G.hN,G.hs];exact S
     have hpl:=gu c1 (fun e he env=>eT he) X.env
     have hx:X.env.scope.names.lookup x=some .local:=by rw [G.hs];simpa using h4
     refine PS.imp (AB (g:=tTg X.K tg') (ti:=ifT C ar n X.K cond) (t:=fun acc=>tCl X.K acc (gD C ar n elt rest)) G.calm S' nd hi hx ((snd n).i [] b X tt ii it G c1) (fun C' ex s H=>gw (G.inner S (C':=C') (ex:=ex) (s:=s) (H:=H)) c2) (fun C' ex s H=>ld (snd n) (G.inner S (C':=C') (ex:=ex) (s:=s) (H:=H)) c3)
      (fun C' ex s H acc=>(snd n).cl _ _ el gs' elt rest (G.inner S (C':=C') (ex:=ex) (s:=s) (H:=H)) c4 _ scope pp acc 0 rfl) sw hpl) fun D σ H q=>?_
     exact tO (fun acc D σ H z=>sx z) (pR (oK (sh q) fun v H' z=>ou z))
 | tup gs=>
  dsimp only at h
  cases hx:vM tg with
  | none=>rw [hx] at h;cases h
  | some r=>
  obtain ⟨ts,kt,pt⟩:=r
  rw [hx] at h
  rw [oC hx]
  simp only [bAE] at h
  obtain ⟨h1,h3⟩:=h
  have so:swapsWithSole [.Tuple ts kt pt] e p.line X.env=pure false:=qo fun x p z=>nomatch z
  have plain:∀ (hw:swappedStores [.Tuple ts kt pt] e X.env=pure none) (hg:k8 b ts gs=true),PS X (.Assign [.Tuple ts kt pt] e p) (tSt X.K (kS (evE C ar n c) (.tup gs))):=fun hw hg=>
   PS.imp (wG ((snd n).e b X e c G h1) (gw G (e:=.Tuple ts kt pt) (t:=.tup gs) hg) so hw rfl) fun D σ H q=>sh q
  cases hy:vM e with
  | none=>
   rw [hy] at h3
   simp only [bAE] at h3
   exact plain (tZ (.inl fun es k p z=>by rw [z] at hy;cases hy)) h3.2
  | some q=>
   obtain ⟨es,ke,pe⟩:=q
   rw [hy] at h3
   obtain rfl:=oC hy
   cases n with
   | zero=>exact absurd h1 Bool.false_ne_true
   | succ n=>
    obtain ⟨cs,rfl⟩:=yF h1
    have ha:=Bt h1
    dsimp only at h3
    cases hr:tY b.sc ts es with
    | none=>rw [hr] at h3;cases h3
    | some w=>
     have hw:=Kb (k:=kt) (p:=pt) (k2:=ke) (p2:=pe) hb G.hs hr
     rw [hr] at h3
     cases w with
     | none=>exact plain hw h3
     | some ns=>
      dsimp only at h3
      cases ht:tgL gs with
      | none=>rw [ht] at h3;cases h3
      | some is=>
       rw [ht] at h3
       simp only [bAE] at h3
       obtain ⟨⟨hn0,hl0⟩,h3⟩:=h3
       have hn:nmL ts=some ns:=by simpa using hn0
       have hl:es.length=ns.length:=by simpa using hl0
       clear hn0 hl0
       obtain rfl:=yE ht
       unfold Kc at h3
       split at h3
       ·rename_i x y
        split at h3
        ·rename_i i j
         obtain ⟨p1,t1,rfl,hn1⟩:=fM hn
         obtain ⟨p2,t2,rfl,hn2⟩:=fM hn1
         obtain rfl:=t0 hn2
         obtain ⟨a1,a2,rfl⟩:=Bx hl
         simp only [bAE] at h3
         obtain ⟨⟨⟨⟨q2,q3⟩,q4⟩,q5⟩,q6⟩:=h3
         exact PS.imp (EC (i:=i) (j:=j) G.calm (by rw [G.hN];exact G.nd) (by rw [G.hN];simpa using q2) (by rw [G.hN];simpa using q3) (by simpa using q4) (by rw [G.hs];simpa using q5) (by rw [G.hs];simpa using q6) ((snd n).a b X _ cs G ha) hw so) fun D σ H q=>Bu q
        ·cases h3
       ·rename_i x y z
        split at h3
        ·rename_i i j l
         obtain ⟨p1,t1,rfl,hn1⟩:=fM hn
         obtain ⟨p2,t2,rfl,hn2⟩:=fM hn1
         obtain ⟨p3,t3,rfl,hn3⟩:=fM hn2
         obtain rfl:=t0 hn3
         obtain ⟨a1,a2,a3,rfl⟩:=vO hl
         simp only [bAE] at h3
         obtain ⟨⟨⟨⟨⟨⟨⟨⟨q2,q3⟩,q3'⟩,q4⟩,q4'⟩,q4''⟩,q5⟩,q6⟩,q7⟩:=h3
         exact PS.imp (AE (i:=i) (j:=j) (k:=l) G.calm (by rw [G.hN];exact G.nd) (by rw [G.hN];simpa using q2) (by rw [G.hN];simpa using q3) (by rw [G.hN];simpa using q3') (by simpa using q4) (by simpa using q4') (by simpa using q4'') (by rw [G.hs];simpa using q5) (by rw [G.hs];simpa using q6) (by rw [G.hs];simpa using q7) ((snd n).a b X _ cs G ha) hw so) fun D σ H q=>Bv q
        ·cases h3
       ·cases h3
theorem yH {v:Expr} {line:Nat} (h:oP v=false):swapsWith v none line X.env=pure false:=by
 unfold swapsWith
 cases v <;> first | rfl | (exact absurd h (fun z=>Bool.false_ne_true z.symm))
structure SndS (T:Tab) (C:Calls) (ar:Nat->Nat) (k n:Nat):Prop where
 s:∀ (b:Blk) (X:Cx) (s:Stmt) (c:CS),CtxOk T C ar k b X->X.env.scope.kind = .function->Kl T n b s c=true->PS X s (tSt X.K (evS C ar n c))
 ss:∀ (b:Blk) (X:Cx) (s:List Stmt) (c:List CS),CtxOk T C ar k b X->X.env.scope.kind = .function->mZ T n b s c=true->PSs X s (tSt X.K (gZ C ar n c))
theorem Km {K:PySem.W.Frag} {D:Ends} {σ:L2.St} {H:Hp} (h:tSt K Bq D σ H):False:=by
 obtain ⟨m,ρ,S,fl,ρ',S',E,R,e,q⟩:=h
 cases e
theorem Kn:∀ n,SndS T C ar k n
 | 0=>⟨fun b X s c _ _ h=>absurd h Bool.false_ne_true,fun b X s c _ _ h=>absurd h Bool.false_ne_true⟩
 | n+1=>by
  have ih:=Kn n
  refine ⟨fun b X s c G hk h=>?_,fun b X ss cs G hk h=>?_⟩
  ·have hp:PassesOwn (model X.prog X.w) X.A X.env X.xe:=by rw [G.xe];exact PassesOwn.never
   cases c with
   | asg t e=>obtain ⟨tg,v,p,rfl,h1⟩:=F8 h;exact Gc G hk h1
   | setI v o i=>
    obtain ⟨x,y,px,z,p,rfl,h1,h2,h3,pl⟩:=Bs h
    exact PS.imp (wG ((snd n).e b X z v G h1) (EA ((snd n).e b X x o G h2) ((snd n).e b X y i G h3) JP (fun v=>by
     cases y <;> first | rfl | (exact absurd pl Bool.false_ne_true))) (qo fun x p z=>nomatch z) (tZ (.inr (.inr ⟨_,_,_,rfl⟩))) rfl) fun D σ H q=>Be q
   | ex e=>obtain ⟨v,p,rfl,h1,h2⟩:=Kj h;exact PS.imp (z8 ((snd n).e b X v e G h1) (yH h2)) fun D σ H q=>Bd q
   | ret e=>obtain ⟨v,p,rfl,h1⟩:=F9 h;exact PS.imp (Ew ((snd n).e b X _ _ G h1)) fun D σ H q=>FI q
   | ifs c x y=>obtain ⟨t,p,q,r,rfl,h1,h2,h3⟩:=Kk h;exact PS.imp (Jg ((snd n).t b X _ _ G h1) (ih.ss b X _ _ G hk h2) (ih.ss b X _ _ G hk h3)) fun D σ H q=>JX q
   | for_ t it x=>
    obtain ⟨tg,i,p,pos,rfl,h1,h2⟩:=Ga h
    have h1:=an2 h1
    exact PS.imp (EF hp G.calm ((snd n).i [] b X _ _ _ G h1.1) (gw G h1.2) (ih.ss b X _ _ G hk h2) (gu h1.1 (fun e he env=>eT he) X.env)) fun D σ H q=>FK q
   | cnt=>obtain ⟨p,rfl⟩:=Gb h;exact PS.imp pB fun D σ H q=>FJ q
   | never=>exact PS.imp wy fun D σ H q=>(Km q).elim
  ·cases cs with
   | nil=>rw [gX h];exact PSs.imp z7 fun D σ H q=>Bc q
   | cons c cs=>
    obtain ⟨s,ss,rfl,h⟩:=fI h
    have h:=an2 h
    exact PSs.imp (wx (ih.s b X s c G hk h.1) (ih.ss b X ss cs G hk h.2)) fun D σ H q=>FH q
end
end Ev
namespace Ev
open PySem PySem.Spec PyProof.Rows L2
structure DefE where
 x:Str
 st:Stmt
 N:List Str
 ps:List Str
 body:List CS
noncomputable def FU:Nat:=60
noncomputable def fN (ag:List DefE) (f:Nat):Nat:=match ag[f]? with
 | some d=>d.ps.length
 | none=>0
noncomputable def Gd (C:Calls) (ar:Nat->Nat) (d:DefE) (ds:List D) (S:Sto):Option (D × Sto):=
 match gZ C ar FU d.body (ds.map some++List.replicate (d.N.length - ds.length) none) S with
 | some (.rt v,_,S')=>some (v,S')
 | some (.nx,_,S')=>some (.non,S')
 | _=>none
noncomputable def evC (ag:List DefE):Nat->Calls
 | 0=>fun _ _ _=>none
 | k+1=>fun f ds S=>match ag[f]? with
  | some d=>Gd (evC ag k) (fN ag) d ds S
  | none=>none
noncomputable def yI (N ps:List Str) (sc:Scope):Bool:=sc.kind == .function && sc.isCoroutine == false && sc.isGenerator == false && i9 N && N.take ps.length == ps && (ps.all fun x=>sc.names.lookup x == some .local || sc.names.lookup x == some .cell) && sc.names.all fun y=>y.2 != .free
theorem Bz {N ps:List Str} {sc:Scope} (h:yI N ps sc=true):FnScope N ps sc:=by
 unfold yI at h
 simp only [bAE,List.all_eq_true] at h
 obtain ⟨⟨⟨⟨⟨⟨h1,h2⟩,h3⟩,h4⟩,h5⟩,h6⟩,h7⟩:=h
 refine ⟨by simpa using h1,by simpa using h2,by simpa using h3,iq h4,by simpa using h5,fun x hx=>?_,fun y hy=>by simpa using h7 y hy⟩
 have:=h6 x hx
 simpa using this
noncomputable def BA (T:Tab) (d:DefE):Bool:=yI d.N d.ps (bb d.st) && mZ T FU ⟨bb d.st,none,d.N⟩ (cf d.st) d.body
noncomputable def t7 (con:List (Str × Int)) (ag:List DefE):Tab:=⟨con,ag.map fun d=>(d.x,d.ps.length)⟩
structure TextOk (K:PySem.W.Frag) (mg:Str->Option Value) (con:List (Str × Int)) (ag:List DefE):Prop where
 con:∀ (i:Nat) (x:Str) (v:Int),con[i]?=some (x,v)->∃ tk,mg x=some (.int v tk)
 bl:∀ x,x ∈ iC->mg x=none
 fn:∀ (i:Nat) (d:DefE),ag[i]?=some d->∃ f fd,mg d.x=some (.ref f)/\PySem.W.keepIn K (.ref f)=true/\mB K fd d.ps []/\Fun K d.x d.x d.st f fd
section
variable {P:Program} {w:World} {K:PySem.W.Frag} {mg:Str->Option Value} {base:Heap} {con:List (Str × Int)} {ag:List DefE}
theorem BB {f:Addr} {fd:FuncData} {ps:List Str} {i n:Nat}:FnOk P w K mg base CX0 0 f fd ps (spC K (evC ag 0 i) n):=
 ⟨fun vs H Q E h=>(by obtain ⟨m,ds,S,d,S',_,_,_,e,_⟩:=h;cases e),fun A outer s H args us vs Q E _ _ _ _ h=>(by obtain ⟨m,ds,S,d,S',_,_,_,e,_⟩:=h;cases e)⟩
theorem vP {m:List Addr} {H:Hp} {N:List Str} {ds:List D} {vs:List V} (vd:VDs K m H ds vs):EnvR K m H (ds.map some++List.replicate (N.length - ds.length) none) (L2.gF N vs):=by
 have hl:=vd.length
 unfold L2.gF
 refine ⟨by simp [hl],fun i d e=>?_⟩
 by_cases hi:i < ds.length
 ·rw [List.getElem?_append_left (by simpa using hi),List.getElem?_map] at e
  cases h:ds[i]? with
  | none=>rw [h] at e;cases e
  | some d'=>
   rw [h] at e
   cases e
   obtain ⟨v,hv,vv⟩:=vd.get h
   exact ⟨v,by rw [List.getElem?_append_left (by simp;omega),List.getElem?_map,hv];rfl,vv⟩
 ·rw [List.getElem?_append_right (by simpa using hi),List.getElem?_replicate] at e
  split at e <;> cases e
theorem t8 (T:TextOk K mg con ag) (hc:ag.all (BA (t7 con ag))=true):∀ (k i:Nat) (d:DefE),ag[i]?=some d->∀ f fd,mg d.x=some (.ref f)->Fun K d.x d.x d.st f fd->FnOk P w K mg base CX0 k f fd d.ps (spC K (evC ag k i) d.ps.length)
 | 0,i,d,_,f,fd,_,_=>BB
 | k+1,i,d,hd,f,fd,hm,F=>by
  have ih:=t8 T hc k
  have ck:=List.all_eq_true.mp hc d (List.mem_of_getElem? hd)
  unfold BA at ck
  rw [bAE] at ck
  have S:=Bz ck.1
  refine F.ok S (fun vs H Q E h=>?_) fun cdv A outer s H vs Q E hr h=>?_
  ·obtain ⟨m,ds,S,d',S',vd,_,hl,_⟩:=h
   rw [<-vd.length,hl]
  ·have G:CtxOk (t7 con ag) (evC ag k) (fN ag) k ⟨bb d.st,none,d.N⟩ (rb CX0 P w K mg base d.N d.x (bb d.st) f cdv A outer s H E).nox:=by
    refine ⟨rfl,rfl,rfl,rfl,S.nd,fun _ _=>rfl,hr,T.con,T.bl,fun j y hy=>?_⟩
    have hy':(ag.map fun d=>(d.x,d.ps.length))[j]?=some y:=hy
    rw [List.getElem?_map] at hy'
    cases hj:ag[j]? with
    | none=>rw [hj] at hy';cases hy'
    | some e=>
     rw [hj] at hy'
     cases hy'
     have ha:fN ag j=e.ps.length:=by unfold fN;rw [hj]
     obtain ⟨f',fd',m',k',b',F'⟩:=T.fn j e hj
     refine ⟨ha,f',fd',e.ps,m',k',b',?_⟩
     rw [ha]
     exact ih j e hj f' fd' m' F'
   refine ⟨_,(Kn FU).ss _ _ (cf d.st) d.body G S.kind ck.2,?_⟩
   obtain ⟨m,ds,S0,r,S',vd,R,hl,e,q⟩:=h
   simp only [evC,hd,Gd] at e
   cases hx:gZ (evC ag k) (fN ag) FU d.body (ds.map some++List.replicate (d.N.length - ds.length) none) S0 with
   | none=>rw [hx] at e;cases e
   | some z=>
    obtain ⟨fl,ρ',S1⟩:=z
    rw [hx] at e
    refine ⟨m,_,S0,fl,ρ',S1,vP vd,R,hx,fun m' H' A'=>?_⟩
    cases fl with
    | nx=>cases e;exact fun σ _=>q m' H' .non A' n6
    | rt v=>cases e;exact fun u vu=>q m' H' u A' vu
    | bk=>cases e
    | ct=>cases e
end
end Ev
namespace Ev
open PySem PySem.Spec PyProof.Rows L2
noncomputable abbrev t9:=(Str × Str) × (Arguments × List Stmt) × (Scope × Addr) × (List (Str × Addr) × Value) × (Addr × Option Str)
noncomputable def D2 (h:Heap):Value->Option Str
 | .ref c=>(match h.get? c with
  | some ⟨_,_,.fields vs,_⟩=>(match vs.toList with | _ :: .str n _::_=>some n | _=>none)
  | _=>none)
 | _=>none
noncomputable def Ko (h:Heap):Option Obj->Option t9
 | some ⟨_,_,.func ⟨nm,qn,ps,.stmts b,sc,gl,cl,dv,_,_,_,_,cd,_,bi⟩,_⟩=>some ((nm,qn),(ps,b),(sc,gl),(cl,dv),(bi,D2 h cd))
 | _=>none
noncomputable def BC (h:Heap) (x:Str):Option t9:=match h.nsMap mainGlobals x with
 | some (.ref f)=>Ko h (h.get? f)
 | _=>none
noncomputable def ua (d:DefE):Option t9:=some ((d.x,d.x),(eF d.st,cf d.st),(bb d.st,mainGlobals),([],.none),(builtinsNs,some d.x))
noncomputable def Kq (h:Heap) (x:Str):Option Int:=match h.nsMap mainGlobals x with
 | some (.int v _)=>some v
 | _=>none
noncomputable abbrev yJ:=Bool × List (Option t9) × List (Option Int) × List Bool
noncomputable def Gf (con:List (Str × Int)) (ag:List DefE) (h:Heap):yJ:=(h.isNs mainGlobals,ag.map (fun d=>BC h d.x),con.map (fun c=>Kq h c.1),iC.map fun x=>(h.nsMap mainGlobals x).isNone)
noncomputable def yK (con:List (Str × Int)) (ag:List DefE):yJ:=(true,ag.map ua,con.map (fun c=>some c.2),iC.map fun _=>true)
noncomputable def D3 (d:DefE):Prop:=∀ (kV doc pm:Value) (an:Option Addr) (cdv ct:Value) (us:List Value),us.length=d.ps.length->bindArgs (PySem.W.fnOf d.x d.x (eF d.st) (cf d.st) (bb d.st) .none kV doc pm an cdv ct) ⟨us,[]⟩=pure (d.ps.zip us)
noncomputable def vQ:List DefE->Prop
 | []=>True
 | d::ds=>D3 d/\vQ ds
theorem vQ.at:∀ {ds:List DefE} {d:DefE},vQ ds->d ∈ ds->D3 d
 | e::ds,d,h,hd=>by
  rcases List.mem_cons.mp hd with rfl | hd
  ·exact h.1
  ·exact vQ.at h.2 hd
noncomputable def m6 (h:Heap) (f:Addr):PySem.W.Frag:=match h.get? f with
 | some o=>(f,o)::(match o.data with
  | .func fd=>(match fd.code with
   | .ref c=>(match h.get? c with | some oc=>[(c,oc)] | none=>[])
   | _=>[])
  | _=>[])
 | none=>[]
noncomputable def dh (h:Heap) (d:DefE):PySem.W.Frag:=match h.nsMap mainGlobals d.x with
 | some (.ref f)=>m6 h f
 | _=>[]
noncomputable def Kr (K:PySem.W.Frag):Prop:=∀ a o,K.lookup a=some o->∀ its n,o.data ≠ .seq its n
structure Says (con:List (Str × Int)) (ag:List DefE) (h:Heap):Prop where
 ns:∃ m,h.Ns mainGlobals m
 frag:∃ K:PySem.W.Frag,K.In h/\Kr K/\∀ mg,h.Ns mainGlobals mg->TextOk K mg con ag
theorem lj {K:PySem.W.Frag} {a:Addr} {o:Obj} (h:K.lookup a=some o):(a,o) ∈ K:=by
 induction K with
 | nil=>cases h
 | cons p K ih=>
  obtain ⟨b,q⟩:=p
  rw [List.lookup_cons] at h
  cases hb:a == b with
  | true=>
   rw [hb] at h
   cases h
   have:a=b:=by simpa using hb
   subst this
   exact List.mem_cons_self
  | false=>rw [hb] at h;exact List.mem_cons_of_mem _ (ih h)
theorem yL {K:PySem.W.Frag} {a:Addr} {o:Obj} (h:(a,o) ∈ K):∃ o',K.lookup a=some o':=by
 induction K with
 | nil=>cases h
 | cons p K ih=>
  obtain ⟨b,q⟩:=p
  rw [List.lookup_cons]
  cases hb:a == b with
  | true=>exact ⟨_,rfl⟩
  | false=>
   rcases List.mem_cons.mp h with e | h
   ·cases e;simp at hb
   ·exact ih h
theorem yM {h:Heap} {f a:Addr} {o:Obj} (e:(a,o) ∈ m6 h f):h.get? a=some o:=by
 unfold m6 at e
 cases hf:h.get? f with
 | none=>rw [hf] at e;cases e
 | some of=>
  rw [hf] at e
  dsimp only at e
  rcases List.mem_cons.mp e with q | e
  ·cases q;exact hf
  ·split at e
   ·split at e
    ·rename_i c hc
     cases hc':h.get? c with
     | none=>rw [hc'] at e;cases e
     | some oc=>
      rw [hc'] at e
      dsimp only at e
      rcases List.mem_cons.mp e with q | e
      ·cases q;exact hc'
      ·cases e
    ·cases e
   ·cases e
theorem Gg {h:Heap} {a:Addr} {mg:Str->Option Value} (N:h.Ns a mg):h.nsMap a=mg:=by
 obtain ⟨o,es,ep,ho,hd,_,hm⟩:=N
 funext x
 unfold Heap.nsMap
 rw [ho]
 dsimp only
 rw [hd]
 exact hm x
theorem yN {h:Heap} {d:DefE} (e:BC h d.x=ua d):∃ f oc od kV doc pm an c ct osl cc cd vs a t r cs,h.nsMap mainGlobals d.x=some (.ref f)/\h.get? f=some ⟨oc,od,.func (PySem.W.fnOf d.x d.x (eF d.st) (cf d.st) (bb d.st) .none kV doc pm an (.ref c) ct),osl⟩ ∧
  h.get? c=some ⟨cc,cd,.fields vs,cs⟩/\vs.toList=a :: .str d.x t::r:=by
 unfold BC ua at e
 split at e
 ·rename_i f hf
  unfold Ko at e
  split at e
  ·rename_i oc od nm qn ps b sc gl cl dv kV doc pm an cdv ct bi osl hg
   simp only [Option.some.injEq,Prod.mk.injEq] at e
   obtain ⟨⟨rfl,rfl⟩,⟨rfl,rfl⟩,⟨rfl,rfl⟩,⟨rfl,rfl⟩,rfl,e⟩:=e
   unfold D2 at e
   split at e
   ·rename_i c
    split at e
    ·rename_i cc cd vs cs hc
     split at e
     ·rename_i a n t r hv
      cases e
      exact ⟨f,oc,od,kV,doc,pm,an,c,ct,osl,cc,cd,vs,a,t,r,cs,hf,hg,hc,hv⟩
     ·cases e
    ·cases e
   ·cases e
  ·cases e
 ·cases e
theorem BD {con:List (Str × Int)} {ag:List DefE} (hb:vQ ag) {h:Heap} (e:Gf con ag h=yK con ag):Says con ag h:=by
 unfold Gf yK at e
 simp only [Prod.mk.injEq] at e
 obtain ⟨e0,e1,e2,e3⟩:=e
 have N:=Heap.Ns.of_isNs e0
 have D:∀ d ∈ ag,BC h d.x=ua d:=fun d hd=>List.map_inj_left.mp e1 d hd
 have inK:∀ a o,(a,o) ∈ ag.flatMap (dh h)->h.get? a=some o:=fun a o he=>by
  obtain ⟨d,hd,he⟩:=List.mem_flatMap.mp he
  obtain ⟨f,oc,od,kV,doc,pm,an,c,ct,osl,cc,cd,vs,a',t,r,cs,g1,g2,g3,g4⟩:=yN (D d hd)
  unfold dh at he
  rw [g1] at he
  exact yM he
 have lk:∀ a o,(a,o) ∈ ag.flatMap (dh h)->(ag.flatMap (dh h)).lookup a=some o:=fun a o he=>by
  obtain ⟨o',q⟩:=yL he
  have z:=inK a o' (lj q)
  rw [inK a o he] at z
  cases z
  exact q
 refine ⟨⟨_,N⟩,ag.flatMap (dh h),fun a o q=>inK a o (lj q),fun a o q its n hs=>?_,fun mg G=>?_⟩
 ·obtain ⟨d,hd,he⟩:=List.mem_flatMap.mp (lj q)
  obtain ⟨f,oc,od,kV,doc,pm,an,c,ct,osl,cc,cd,vs,a',t,r,cs,g1,g2,g3,g4⟩:=yN (D d hd)
  unfold dh at he
  rw [g1] at he
  dsimp only at he
  unfold m6 at he
  rw [g2] at he
  dsimp only at he
  rw [g3] at he
  dsimp only at he
  rcases List.mem_cons.mp he with z | he
  ·cases z;cases hs
  ·rcases List.mem_cons.mp he with z | he
   ·cases z;cases hs
   ·cases he
 ·have hm:=Gg G
  refine ⟨fun i x v hi=>?_,fun x hx=>?_,fun i d hi=>?_⟩
  ·have z:=List.map_inj_left.mp e2 (x,v) (List.mem_of_getElem? hi)
   unfold Kq at z
   rw [hm] at z
   dsimp only at z
   split at z
   ·rename_i v' t hv;cases z;exact ⟨t,hv⟩
   ·cases z
  ·have z:=List.map_inj_left.mp e3 x hx
   rw [hm] at z
   simpa using z
  ·have hd:=List.mem_of_getElem? hi
   obtain ⟨f,oc,od,kV,doc,pm,an,c,ct,osl,cc,cd,vs,a',t,r,cs,g1,g2,g3,g4⟩:=yN (D d hd)
   have m1:(f,_) ∈ ag.flatMap (dh h):=List.mem_flatMap.mpr ⟨d,hd,by
    show _ ∈ dh h d
    unfold dh
    rw [g1]
    dsimp only
    unfold m6
    rw [g2]
    exact List.mem_cons_self⟩
   have m2:(c,_) ∈ ag.flatMap (dh h):=List.mem_flatMap.mpr ⟨d,hd,by
    show _ ∈ dh h d
    unfold dh
    rw [g1]
    dsimp only
    unfold m6
    rw [g2]
    dsimp only
    rw [g3]
    exact List.mem_cons_of_mem _ List.mem_cons_self⟩
   have l1:=lk _ _ m1
   have l2:=lk _ _ m2
   have kp:PySem.W.keepIn (ag.flatMap (dh h)) (.ref f)=true:=by unfold PySem.W.keepIn;dsimp only;rw [l1]
   have cdI:PySem.W.codeIn (ag.flatMap (dh h)) (.ref c) d.x=true:=by
    unfold PySem.W.codeIn
    dsimp only
    rw [l2]
    dsimp only
    rw [g4]
    simp
   have F:=E7 (st:=d.st) (x:=d.x) (qual:=d.x) l1 cdI kp
   refine ⟨f,_,by rw [<-hm];exact g1,kp,F.binds (hb.at hd),F⟩
theorem sB {con:List (Str × Int)} {ag:List DefE} {h h':Heap} (x:Says con ag h) (k:∀ b o,h.get? b=some o->h'.get? b=some o):Says con ag h':=by
 obtain ⟨⟨m,N⟩,K,KX,ns,T⟩:=x
 have back:∀ mg,h'.Ns mainGlobals mg->h.Ns mainGlobals mg:=fun mg ⟨o,es,ep,ho,r⟩=>by
  obtain ⟨o',es',ep',ho',r'⟩:=N
  have z:=k _ _ ho'
  rw [ho] at z
  cases z
  exact ⟨o,es,ep,ho',r⟩
 refine ⟨⟨m,let ⟨o,es,ep,ho,r⟩:=N;⟨o,es,ep,k _ _ ho,r⟩⟩,K,fun a o q=>k _ _ (KX a o q),ns,fun mg G=>T mg (back mg G)⟩
noncomputable def oQ (con:List (Str × Int)) (ag:List DefE) (hb:vQ ag):PySem.W.Hook:=
 ⟨yJ,fun s=>Gf con ag s.heap,fun _=>yK con ag,fun _ h=>Says con ag h,fun _ _ e=>BD hb e,fun _ _ _ x k=>sB x k⟩
theorem lp {K:PySem.W.Frag} {m:List Addr} {H:Hp}:∀ ns:List Int,VDs K m H (ns.map D.int) (ns.map V.int)
 | []=>by rw [List.map_nil,List.map_nil,VDs]
 | a::l=>by rw [List.map_cons,List.map_cons,VDs];exact ⟨_,_,rfl,bm,lp l⟩
theorem BE {l:PySem.W.OpenLaw} {n k i:Nat} {q:Program} {loose:List Str} {XP:(Str->Option Value)->Heap->Prop} {d:DefRec} {con:List (Str × Int)} {ag:List DefE} {hb:vQ ag} {dl:DefE} {x:Str}
  (hn:l.most=some n) (hn2:n<=sizeLine) (hdf:d.params.defaults=[]) (hr:Room k callerA) (hx:d.name=dl.x) (hi:ag[i]?=some dl) (hps:dl.ps=[x]) (hc:ag.all (BA (t7 con ag))=true)
  (main:∀ ns:List Int,ns.length<=n->∃ S',evC ag k i [.ref 0] [.frz (ns.map D.int)]=some (.bl true,S')) :
  PySem.W.WalkO q loose XP (oQ con ag hb).says l.row.toRowW d [] (fun f vs=>PySem.call f vs):=by
 refine Att.attach_call hn hdf fun w s₀ s₁ mg mb fa o pm cd doc a vs ns G Y ho hd hcd hmg hobj hints hlen hg=>?_
 obtain ⟨_,K,KX,noS,T⟩:=(show Says con ag s₁.heap from Y)
 have T:=T mg G.T.g
 obtain ⟨f,fd,hm,kp,_,F⟩:=T.fn i dl hi
 rw [hx] at hmg
 rw [hmg] at hm
 cases hm
 have bd:∀ (s:Shared) (u:Value),BindsTo s fd ⟨[u],[]⟩ [(x,u)]:=fun s u=>by
  obtain ⟨oc,od,kV,doc,pm,an,cdv,ct,osl,rfl,lk,hcd⟩:=F.ex
  have z:=(hb.at (List.mem_of_getElem? hi)) kV doc pm an cdv ct [u] (by rw [hps];rfl)
  rw [hps] at z
  exact .of_eq z
 refine wZ (CX:=CX0) (sp:=spC K (evC ag k i) dl.ps.length) KX G.T.g G.T.b G.T.builtins G.T.nolimit hg hobj hints (Nat.le_trans hlen hn2) hr (fun base _ _=>by
  have:=t8 (P:=l.row.toRowW.prog) (w:=w) (base:=base) T hc k i dl hi fa fd hmg F
  rw [hps] at this ⊢
  exact this) bd (fun H hO hS=>?_) fun H e s' z=>z
 have fz:∃ o,H a=some (.frz o (.lst (ns.map V.int))):=by
  rcases hS with (z | ⟨o,z⟩) | ⟨o,its,n',hk,hc,hdd,hdt,_⟩
  ·rcases hO a with y | ⟨o',xs,y⟩
   ·rw [y] at z;cases z
   ·rw [y] at z;cases z
  ·exact ⟨o,z⟩
  ·exact absurd hdt (noS a o hk its n')
 obtain ⟨o,fz⟩:=fz
 obtain ⟨S',e⟩:=main ns hlen
 refine ⟨[a],[.ref 0],[.frz (ns.map D.int)],.bl true,S',?_,⟨rfl,by simp,fun j ob ej=>?_⟩,by rw [hps];rfl,e,fun m' H' v A vv=>vv.bls⟩
 ·rw [VDs]
  exact ⟨_,_,rfl,by rw [VD];exact ⟨a,rfl,rfl⟩,by rw [VDs]⟩
 ·cases j with
  | zero=>cases ej;exact ⟨a,rfl,o,_,fz,lp ns⟩
  | succ j=>simp at ej
end Ev
namespace Lw
open PySem Ev
noncomputable def top (i:Nat):Stmt:=PySem.Challenge.pw_downrings_k33_whole_soonest_are_least.main.body.getD i (.Pass ⟨0,0,0,0⟩)
noncomputable abbrev ls:Nat:=0
noncomputable abbrev bc:Nat:=1
noncomputable abbrev cp:Nat:=2
noncomputable abbrev a8:Nat:=3
noncomputable abbrev eV:Nat:=4
noncomputable abbrev jC:Nat:=5
noncomputable abbrev lu:Nat:=6
noncomputable abbrev iI:Nat:=7
noncomputable abbrev bE:Nat:=8
noncomputable abbrev jD:Nat:=9
noncomputable abbrev iJ:Nat:=10
noncomputable abbrev jg:Nat:=11
noncomputable abbrev dZ:Nat:=12
noncomputable abbrev qt:Nat:=13
noncomputable abbrev lv:Nat:=14
noncomputable abbrev gI:Nat:=15
noncomputable abbrev jE:Nat:=16
noncomputable abbrev jF:Nat:=17
noncomputable abbrev jG:Nat:=18
noncomputable abbrev fk:Nat:=19
noncomputable abbrev m8:Nat:=20
noncomputable abbrev eX:Nat:=21
noncomputable abbrev fm:Nat:=22
noncomputable abbrev bV:Nat:=23
noncomputable abbrev gJ:Nat:=24
noncomputable abbrev gK:Nat:=25
noncomputable abbrev jh:Nat:=26
noncomputable abbrev lw:Nat:=27
noncomputable abbrev cL:Nat:=28
noncomputable abbrev ek:Nat:=29
noncomputable abbrev dn:Nat:=30
noncomputable abbrev gL:Nat:=31
noncomputable abbrev m9:Nat:=32
noncomputable abbrev ae:Nat:=33
noncomputable abbrev lx:Nat:=34
noncomputable abbrev iK:Nat:=35
noncomputable abbrev ji:Nat:=36
noncomputable abbrev ly:Nat:=37
noncomputable abbrev dq:Nat:=38
noncomputable abbrev g6:Nat:=39
noncomputable abbrev dr:Nat:=40
noncomputable abbrev fO:Nat:=41
noncomputable abbrev fP:Nat:=42
noncomputable abbrev lA:Nat:=43
noncomputable abbrev eu:Nat:=44
noncomputable abbrev fo:Nat:=45
noncomputable abbrev ub:Nat:=46
noncomputable def lB:List CS:=[.ret (.and (.inst .int (.var 0)) (.not (.inst .bool (.var 0))))]
noncomputable def jH:List CS:=[.ret (.and (.call ls [(.var 0)]) (.chn .le .le (.var 1) (.var 0) (.var 2)))]
noncomputable def jI:List CS:=[.ret (.call bc [(.var 0),(.int 0),(.con 0 9999)])]
noncomputable def lD:List CS:=[.ret (.and (.inst .tuple (.var 0)) (.chn .le .le (.var 1) (.len (.var 0)) (.var 2)))]
noncomputable def iL:List CS:=[.ifs (.or (.not (.call a8 [(.var 0),(.int 0),(.var 1)])) (.not (.all (.comp ["number"] (.call bc [(.var 2),(.int 0),(.bin .sub (.var 1) (.int 1))]) [⟨(.name 2),(.val (.var 0)),none⟩])))) [.ret (.bl false)] [],.ret (.all (.comp ["number"] (.cmp .eq (.cnt (.var 0) (.var 2)) (.int 1)) [⟨(.name 2),(.val (.var 0)),none⟩]))]
noncomputable def jJ:List CS:=[.ifs (.not (.call a8 [(.var 0),(.int 4),(.int 4)])) [.ret (.bl false)] [],.asg (.tup [(.name 1),(.name 2),(.name 3),(.name 4)]) (.var 0),.ret (.and (.call bc [(.var 1),(.int 0),(.con 1 8)]) (.and (.call bc [(.var 2),(.int 0),(.con 2 60)]) (.and (.call lu [(.var 3)]) (.call jD [(.var 4)]))))]
noncomputable def lH:List CS:=[.ifs (.not (.call a8 [(.var 0),(.int 1),(.con 3 4)])) [.ret (.bl false)] [],.ret (.and (.all (.comp ["row"] (.call iI [(.var 1),(.len (.var 0))]) [⟨(.name 1),(.val (.var 0)),none⟩])) (.call bE [(.var 0)]))]
noncomputable def iM:List CS:=[.ret (.and (.call a8 [(.var 0),(.var 1),(.var 1)]) (.all (.comp ["gap"] (.call bc [(.var 2),(.int 1),(.con 4 99)]) [⟨(.name 2),(.val (.var 0)),none⟩])))]
noncomputable def bF:List CS:=[.asg (.name 1) (.listR (.len (.var 0))),.ret (.all (.comp ["a", "b", "c"] (.cmp .le (.ix (.ix (.var 0) (.var 2)) (.var 3)) (.bin .add (.ix (.ix (.var 0) (.var 2)) (.var 4)) (.ix (.ix (.var 0) (.var 4)) (.var 3)))) [⟨(.name 2),(.val (.var 1)),none⟩,⟨(.name 3),(.val (.var 1)),none⟩,⟨(.name 4),(.val (.var 1)),none⟩]))]
noncomputable def jK:List CS:=[.ifs (.or (.not (.call a8 [(.var 0),(.int 0),(.con 5 4)])) (.not (.all (.comp ["part"] (.call iJ [(.var 1)]) [⟨(.name 1),(.val (.var 0)),none⟩])))) [.ret (.bl false)] [],.ret (.all (.comp ["at"] (.cmp .gt (.ix (.ix (.var 0) (.var 1)) (.int 0)) (.ix (.ix (.var 0) (.bin .sub (.var 1) (.int 1))) (.int 1))) [⟨(.name 1),(.r2 (.int 1) (.len (.var 0))),none⟩]))]
noncomputable def iO:List CS:=[.ret (.and (.call a8 [(.var 0),(.int 2),(.int 2)]) (.and (.call cp [(.ix (.var 0) (.int 0))]) (.and (.call cp [(.ix (.var 0) (.int 1))]) (.cmp .lt (.ix (.var 0) (.int 0)) (.ix (.var 0) (.int 1))))))]
noncomputable def nc:List CS:=[.ret (.call bc [(.var 1),(.int 0),(.bin .sub (.len (.ix (.var 0) (.int 2))) (.int 1))])]
noncomputable def eA:List CS:=[.for_ (.tup [(.name 2),(.name 3)]) (.val (.ix (.var 0) (.int 3))) [.ifs (.chn .le .lt (.var 2) (.var 1) (.var 3)) [.ret (.var 3)] []],.ret (.var 1)]
noncomputable def qu:List CS:=[.ifs (.not (.call a8 [(.var 0),(.int 4),(.int 4)])) [.ret (.bl false)] [],.asg (.tup [(.name 1),(.name 2),(.name 3),(.name 4)]) (.var 0),.ret (.and (.call jC [(.var 1)]) (.and (.call lv [(.var 1),(.var 2)]) (.and (.call gI [(.var 1),(.var 3)]) (.call jF [(.var 3),(.var 4)]))))]
noncomputable def lJ:List CS:=[.ifs (.cmp .is (.var 1) .non) [.ret (.bl true)] [],.ret (.and (.call a8 [(.var 1),(.int 2),(.int 2)]) (.and (.call jg [(.var 0),(.ix (.var 1) (.int 0))]) (.call cp [(.ix (.var 1) (.int 1))])))]
noncomputable def gM:List CS:=[.ret (.and (.call a8 [(.var 1),(.int 0),(.con 6 7)]) (.all (.comp ["part"] (.call jE [(.var 0),(.var 2)]) [⟨(.name 2),(.val (.var 1)),none⟩])))]
noncomputable def jL:List CS:=[.ifs (.not (.call a8 [(.var 1),(.int 7),(.int 7)])) [.ret (.bl false)] [],.asg (.tup [(.name 2),(.name 3),(.name 4),(.name 5),(.name 6),(.name 7),(.name 8)]) (.var 1),.ifs (.not (.all (.comp ["minute"] (.call cp [(.var 9)]) [⟨(.name 9),(.val (.tup [(.var 3),(.var 4),(.var 5),(.var 6)])),none⟩]))) [.ret (.bl false)] [],.ifs (.not (.chn .le .le (.bin .add (.var 3) (.ix (.var 0) (.int 1))) (.var 4) (.var 5))) [.ret (.bl false)] [],.ret (.and (.call jg [(.var 0),(.var 2)]) (.and (.call bc [(.var 7),(.int 0),(.con 7 99)]) (.call bc [(.var 8),(.int 0),(.ix (.var 0) (.int 0))])))]
noncomputable def jM:List CS:=[.ifs (.not (.call eV [(.var 1),(.len (.var 0))])) [.ret (.bl false)] [],.ret (.all (.comp ["number", "glider"] (.or (.cmp .eq (.ix (.var 3) (.int 6)) (.int 0)) (.cmp .isin (.var 2) (.var 1))) [⟨(.tup [(.name 2),(.name 3)]),(.en (.var 0)),none⟩]))]
noncomputable def jN:List CS:=[.ifs (.not (.call qt [(.var 0)])) [.never] []]
noncomputable def fq:List CS:=[.ifs (.not (.var 1)) [.ret (.ix (.var 0) (.int 1))] [],.asg (.tup [(.name 2),(.name 3)]) (.ix (.var 1) (.neg (.int 1))),.ret (.tup [(.ix (.ix (.ix (.var 0) (.int 2)) (.var 2)) (.int 0)),(.var 3)])]
noncomputable def ng:List CS:=[.ifs (.cmp .is (.var 1) .non) [.ret (.int 0)] [],.ret (.bin .add (.ix (.var 1) (.int 1)) (.ix (.ix (.ix (.ix (.var 0) (.int 0)) (.int 2)) (.ix (.var 1) (.int 0))) (.var 2)))]
noncomputable def lK:List CS:=[.asg (.tup [(.name 3),(.name 4)]) (.var 1),.ret (.chn .le .lt (.ix (.ix (.ix (.var 0) (.int 2)) (.var 3)) (.int 1)) (.var 2) (.bin .sub (.var 4) (.ix (.ix (.var 0) (.int 0)) (.int 1))))]
noncomputable def ft:List CS:=[.ret (.len (.comp ["landing"] (.var 3) [⟨(.name 3),(.val (.var 1)),some (.call eX [(.var 0),(.var 3),(.var 2)])⟩]))]
noncomputable def dz:List CS:=[.ret (.srt (.comp ["glider"] (.ix (.var 1) (.int 1)) [⟨(.name 1),(.val (.ix (.var 0) (.int 2))),none⟩]))]
noncomputable def gN:List CS:=[.asg (.tup [(.name 3),(.name 4),(.name 5),(.name 6),(.name 7),(.name 8),(.name 9)]) (.ix (.ix (.var 0) (.int 2)) (.ix (.ix (.var 1) (.var 2)) (.int 0))),.ret (.and (.cmp .gt (.var 9) (.int 0)) (.and (.call eX [(.var 0),(.ix (.var 1) (.var 2)),(.var 4)]) (.cmp .gt (.call gK [(.var 0),(.var 1),(.var 2),(.var 4)]) (.var 9))))]
noncomputable def gO:List CS:=[.asg (.name 4) (.sl (.var 1) none (some (.var 2))),.asg (.name 5) (.comp ["when"] (.var 6) [⟨(.name 6),(.val (.call bV [(.var 0)])),some (.and (.cmp .gt (.var 6) (.var 3)) (.call eX [(.var 0),(.ix (.var 1) (.var 2)),(.var 6)]))⟩]),.ret (.mxL (.comp ["when"] (.bin .add (.int 1) (.call fm [(.var 0),(.var 4),(.var 6)])) [⟨(.name 6),(.val (.bin .add (.lst [(.var 3)]) (.var 5))),none⟩]))]
noncomputable def nh:List CS:=[.ex (.call jG [(.var 0)]),.ifs (.not (.call lw [(.var 0),(.var 1)])) [.never] [],.asg (.name 2) (.call cL [(.var 0),(.var 1)]),.ifs (.cmp .lt (.len (.var 2)) (.len (.var 1))) [.ret (.tup [(.str "stuck"),(.len (.var 2))])] [],.ret (.tup [(.str "lands"),(.var 2)])]
noncomputable def lO:List CS:=[.asg (.name 2) (.len (.ix (.var 0) (.int 2))),.ret (.and (.call eV [(.var 1),(.var 2)]) (.and (.cmp .eq (.len (.var 1)) (.var 2)) (.cmp .eq (.sl (.var 1) none (some (.len (.ix (.var 0) (.int 3))))) (.ix (.var 0) (.int 3)))))]
noncomputable def cM:List CS:=[.asg (.name 2) (.lst []),.for_ (.tup [(.name 3),(.name 4)]) (.en (.var 1)) [.asg (.name 5) (.call ek [(.var 0),(.call fk [(.var 0),(.var 2)]),(.var 4),(.var 3)]),.ifs (.cmp .is (.var 5) .non) [.ret (.var 2)] [],.ex (.app (.var 2) (.tup [(.var 4),(.var 5)])),.ifs (.call gJ [(.var 0),(.var 2),(.var 3)]) [.ret (.sl (.var 2) none (some (.var 3)))] []],.ret (.var 2)]
noncomputable def eB:List CS:=[.asg (.tup [(.name 4),(.name 5),(.name 6),(.name 7),(.name 8),(.name 9),(.name 10)]) (.ix (.ix (.var 0) (.int 2)) (.var 2)),.asg (.name 11) (.call dZ [(.ix (.var 0) (.int 0)),(.mx (.var 6) (.call m8 [(.var 0),(.var 1),(.var 4)]))]),.ifs (.or (.cmp .gt (.var 11) (.var 7)) (.call dn [(.var 0),(.var 3),(.var 11)])) [.ret .non] [],.ret (.var 11)]
noncomputable def dA:List CS:=[.asg (.tup [(.name 3),(.name 4),(.name 5),(.name 6)]) (.ix (.var 0) (.int 0)),.asg (.name 7) (.call bV [(.var 0)]),.asg (.name 8) (.bin .add (.var 3) (.var 1)),.ret (.and (.cmp .lt (.var 8) (.len (.var 7))) (.cmp .gt (.bin .sub (.var 2) (.var 4)) (.ix (.var 7) (.var 8))))]
noncomputable def gP:List CS:=[.ifs (.cmp .lt (.var 1) (.len (.var 0))) [.ret (.ix (.var 0) (.var 1))] [],.ret (.int 0)]
noncomputable def ni:List CS:=[.ifs (.cmp .ge (.var 0) (.bin .pow (.int 10) (.int 18))) [.ret (.lst [(.bin .sub (.var 0) (.bin .pow (.int 10) (.int 18)))])] [],.asg (.name 1) (.int 0),.for_ (.name 2) (.r1 (.int 64)) [.asg (.name 3) (.bin .mod (.bin .mul (.bin .add (.bin .add (.bin .mod (.var 0) (.int 2147483629)) (.bin .mul (.int 7919) (.var 2))) (.int 1)) (.int 48271)) (.int 2147483647)),.asg (.name 3) (.bin .mod (.bin .add (.bin .add (.bin .mul (.var 3) (.var 3)) (.bin .mul (.int 69621) (.var 2))) (.int 7)) (.int 2147483587)),.asg (.name 1) (.bin .add (.bin .mul (.var 1) (.int 2147483587)) (.var 3))],.ret (.lst [(.var 1)])]
noncomputable def lQ:List CS:=[.asg (.name 2) (.bin .mod (.ix (.var 0) (.int 0)) (.var 1)),.setI (.bin .fdiv (.ix (.var 0) (.int 0)) (.var 1)) (.var 0) (.int 0),.ret (.var 2)]
noncomputable def eY:List CS:=[.asg (.tup [(.name 1),(.name 2)]) (.tup [(.bin .add (.int 1) (.call ae [(.var 0),(.int 4)])),(.ix (.lst [(.int 3),(.int 12),(.int 40)]) (.call ae [(.var 0),(.int 3)]))]),.asg (.name 3) (.comp ["_law_a"] (.comp ["_law_b"] (.bin .add (.int 1) (.call ae [(.var 0),(.var 2)])) [⟨(.name 7),(.r1 (.var 1)),none⟩]) [⟨(.name 6),(.r1 (.var 1)),none⟩]),.for_ (.name 4) (.r1 (.var 1)) [.for_ (.name 5) (.r1 (.var 1)) [.setI (.comp ["_law_b"] (.mn (.ix (.ix (.var 3) (.var 5)) (.var 6)) (.bin .add (.ix (.ix (.var 3) (.var 5)) (.var 4)) (.ix (.ix (.var 3) (.var 4)) (.var 6)))) [⟨(.name 6),(.r1 (.var 1)),none⟩]) (.var 3) (.var 5)]],.ret (.tupOf (.comp ["_law_row"] (.tupOf (.var 6)) [⟨(.name 6),(.val (.var 3)),none⟩]))]
noncomputable def iP:List CS:=[.asg (.tup [(.name 1),(.name 2)]) (.tup [(.lst []),(.int 0)]),.for_ (.name 3) (.r1 (.call ae [(.var 0),(.ix (.lst [(.int 1),(.int 5)]) (.call ae [(.var 0),(.int 2)]))])) [.asg (.name 4) (.bin .add (.var 2) (.call ae [(.var 0),(.int 25)])),.ex (.app (.var 1) (.tup [(.var 4),(.bin .add (.bin .add (.var 4) (.int 1)) (.call ae [(.var 0),(.int 25)]))])),.asg (.name 2) (.bin .add (.ix (.ix (.var 1) (.neg (.int 1))) (.int 1)) (.int 1))],.ret (.tup [(.ix (.lst [(.int 8),(.int 1),(.int 2),(.int 3),(.int 0)]) (.call ae [(.var 0),(.int 5)])),(.ix (.lst [(.int 0),(.int 2),(.int 9),(.int 60)]) (.call ae [(.var 0),(.int 4)])),(.call lx [(.var 0)]),(.tupOf (.var 1))])]
noncomputable def gy:List CS:=[.asg (.tup [(.name 2),(.name 3)]) (.tup [(.call iK [(.var 0)]),(.lst [])]),.asg (.tup [(.name 4),(.name 5)]) (.tup [(.ix (.lst [(.int 5),(.int 20),(.int 60)]) (.call ae [(.var 0),(.int 3)])),(.ix (.lst [(.int 4),(.int 30),(.int 90),(.int 400)]) (.call ae [(.var 0),(.int 4)]))]),.for_ (.name 6) (.r1 (.call ae [(.var 0),(.bin .add (.var 1) (.int 1))])) [.asg (.name 7) (.call ae [(.var 0),(.var 4)]),.asg (.name 8) (.bin .add (.bin .add (.var 7) (.ix (.var 2) (.int 1))) (.ix (.lst [(.int 0),(.call ae [(.var 0),(.int 9)])]) (.call ae [(.var 0),(.int 2)]))),.asg (.tup [(.name 9),(.name 10)]) (.tup [(.bin .add (.var 8) (.call ae [(.var 0),(.var 5)])),(.bin .add (.var 7) (.call ae [(.var 0),(.var 5)]))]),.ex (.app (.var 3) (.lst [(.call ae [(.var 0),(.len (.ix (.var 2) (.int 2)))]),(.var 7),(.var 8),(.var 9),(.var 10),(.ix (.lst [(.int 0),(.int 1),(.int 7),(.int 99)]) (.call ae [(.var 0),(.int 4)])),(.int 0)]))],.asg (.tup [(.name 11),(.name 12)]) (.tup [(.listR (.len (.var 3))),(.lst [])]),.for_ (.name 13) (.r1 (.ix (.lst [(.int 0),(.call ae [(.var 0),(.bin .add (.len (.var 3)) (.int 1))])]) (.call ae [(.var 0),(.int 2)]))) [.ex (.app (.var 12) (.popAt (.var 11) (.call ae [(.var 0),(.len (.var 11))]))),.ifs (.and (.cmp .gt (.ix (.var 2) (.int 0)) (.int 0)) (.cmp .eq (.call ae [(.var 0),(.int 3)]) (.int 0))) [.setI (.bin .add (.int 1) (.call ae [(.var 0),(.ix (.var 2) (.int 0))])) (.ix (.var 3) (.ix (.var 12) (.neg (.int 1)))) (.int 6)] []],.asg (.name 14) (.ix (.lst [.non,(.tup [(.call ae [(.var 0),(.len (.ix (.var 2) (.int 2)))]),(.call ae [(.var 0),(.int 30)])])]) (.call ae [(.var 0),(.int 2)])),.ret (.tup [(.var 2),(.var 14),(.tupOf (.comp ["_law_one"] (.tupOf (.var 15)) [⟨(.name 15),(.val (.var 3)),none⟩])),(.tupOf (.var 12))])]
noncomputable def lU:List CS:=[.for_ (.tup [(.name 2),(.name 3)]) (.val (.var 0)) [.ifs (.chn .le .lt (.var 2) (.var 1) (.var 3)) [.asg (.name 1) (.var 3)] []],.ret (.var 1)]
noncomputable def jO:List CS:=[.ret (.comp ["_law_one", "_law_minute"] (.var 3) [⟨(.tup [(.name 3),(.name 4)]),(.val (.var 1)),some (.chn .le .lt (.ix (.ix (.ix (.var 0) (.int 2)) (.var 3)) (.int 1)) (.var 2) (.bin .sub (.var 4) (.ix (.ix (.var 0) (.int 0)) (.int 1))))⟩])]
noncomputable def lV:List CS:=[.asg (.name 4) (.ix (.ix (.ix (.var 0) (.int 2)) (.var 2)) (.int 1)),.asg (.name 5) (.bin .add (.lst [(.var 4)]) (.comp ["_law_one", "_law_when"] (.ix (.ix (.ix (.var 0) (.int 2)) (.var 7)) (.int 1)) [⟨(.tup [(.name 7),(.name 8)]),(.val (.var 1)),none⟩])),.asg (.name 6) (.comp ["_law_at"] (.bin .add (.int 1) (.len (.call dq [(.var 0),(.var 1),(.var 7)]))) [⟨(.name 7),(.val (.var 5)),some (.chn .le .lt (.var 4) (.var 7) (.bin .sub (.var 3) (.ix (.ix (.var 0) (.int 0)) (.int 1))))⟩]),.ret (.mxD (.var 6) 0)]
noncomputable def dB:List CS:=[.ifs (.cmp .ne (.srt (.comp ["_law_one", "_law_minute"] (.var 13) [⟨(.tup [(.name 13),(.name 14)]),(.val (.var 1)),none⟩])) (.listR (.len (.ix (.var 0) (.int 2))))) [.ret (.bl false)] [],.ifs (.cmp .ne (.sl (.tupOf (.comp ["_law_one", "_law_minute"] (.var 13) [⟨(.tup [(.name 13),(.name 14)]),(.val (.var 1)),none⟩])) none (some (.len (.ix (.var 0) (.int 3))))) (.ix (.var 0) (.int 3))) [.ret (.bl false)] [],.asg (.name 2) (.ix (.var 0) (.int 1)),.for_ (.tup [(.name 3),(.tup [(.name 4),(.name 5)])]) (.en (.var 1)) [.asg (.tup [(.name 6),(.name 7),(.name 8),(.name 9),(.name 10),(.name 11),(.name 12)]) (.ix (.ix (.var 0) (.int 2)) (.var 4)),.ifs (.or (.not (.chn .le .le (.var 8) (.var 5) (.var 9))) (.cmp .ne (.call ly [(.ix (.ix (.var 0) (.int 0)) (.int 3)),(.var 5)]) (.var 5))) [.ret (.bl false)] [],.ifs (.and (.cmp .isnot (.var 2) .non) (.cmp .lt (.var 5) (.bin .add (.ix (.var 2) (.int 1)) (.ix (.ix (.ix (.ix (.var 0) (.int 0)) (.int 2)) (.ix (.var 2) (.int 0))) (.var 6))))) [.ret (.bl false)] [],.ifs (.or (.cmp .gt (.len (.call dq [(.var 0),(.var 1),(.var 7)])) (.ix (.ix (.var 0) (.int 0)) (.int 0))) (.chn .lt .lt (.int 0) (.var 12) (.call g6 [(.var 0),(.sl (.var 1) none (some (.var 3))),(.var 4),(.var 5)]))) [.ret (.bl false)] [],.asg (.name 2) (.tup [(.var 6),(.var 5)])],.ret (.bl true)]
noncomputable def fQ:List CS:=[.asg (.name 2) (.listOf (.var 1)),.ret (.comp ["_law_one"] (.popAt (.var 2) (.call ae [(.var 0),(.len (.var 2))])) [⟨(.name 3),(.val (.var 1)),none⟩])]
noncomputable def fR:List CS:=[.asg (.name 2) (.call fO [(.var 0),(.comp ["_law_one"] (.var 3) [⟨(.name 3),(.r1 (.len (.ix (.var 1) (.int 2)))),some (.cmp .notin (.var 3) (.ix (.var 1) (.int 3)))⟩])]),.ifs (.cmp .eq (.call ae [(.var 0),(.int 2)]) (.int 0)) [.asg (.name 2) (.comp ["_law_first", "_law_one"] (.var 4) [⟨(.tup [(.name 3),(.name 4)]),(.val (.srt (.comp ["_law_one"] (.tup [(.ix (.ix (.ix (.var 1) (.int 2)) (.var 3)) (.int 2)),(.var 3)]) [⟨(.name 3),(.val (.var 2)),none⟩]))),none⟩])] [],.ret (.bin .add (.ix (.var 1) (.int 3)) (.tupOf (.var 2)))]
noncomputable def cN:List CS:=[.asg (.tup [(.name 1),(.name 2),(.name 3),(.name 4)]) (.call ji [(.var 0),(.int 3)]),.ifs (.cmp .eq (.var 3) (.tup [])) [.asg (.name 3) (.tup [(.tup [(.int 0),(.int 3),(.bin .add (.int 3) (.ix (.var 1) (.int 1))),(.bin .add (.int 3) (.ix (.var 1) (.int 1))),(.int 0),(.int 1),(.int 0)])])] [],.asg (.name 5) (.lst []),.for_ (.tup [(.name 6),(.name 7),(.name 8),(.name 9),(.name 10),(.name 11),(.name 12)]) (.val (.var 3)) [.asg (.name 7) (.bin .mod (.var 7) (.int 6)),.asg (.name 8) (.bin .add (.bin .add (.var 7) (.ix (.var 1) (.int 1))) (.call ae [(.var 0),(.int 2)])),.ex (.app (.var 5) (.tup [(.var 6),(.var 7),(.var 8),(.bin .add (.var 8) (.bin .mod (.var 9) (.int 9))),(.var 10),(.var 11),(.mn (.var 12) (.bin .mod (.ix (.var 1) (.int 0)) (.int 3)))]))],.asg (.name 13) (.tupOf (.comp ["_law_row"] (.tupOf (.comp ["_law_number"] (.bin .add (.int 1) (.bin .mod (.bin .sub (.var 16) (.int 1)) (.int 3))) [⟨(.name 16),(.val (.var 15)),none⟩])) [⟨(.name 15),(.val (.ix (.var 1) (.int 2))),none⟩])),.ifs (.cmp .gt (.mxL (.comp ["_law_row"] (.mxL (.var 15)) [⟨(.name 15),(.val (.var 13)),none⟩])) (.int 2)) [.asg (.name 13) (.tupOf (.comp ["_law_row"] (.tupOf (.comp ["_law_number"] (.mx (.int 2) (.var 16)) [⟨(.name 16),(.val (.var 15)),none⟩])) [⟨(.name 15),(.val (.var 13)),none⟩]))] [],.asg (.name 14) (.tupOf (.comp ["_law_begin", "_law_end"] (.tup [(.var 15),(.var 16)]) [⟨(.tup [(.name 15),(.name 16)]),(.val (.ix (.var 1) (.int 3))),some (.cmp .lt (.var 16) (.int 40))⟩])),.ret (.tup [(.tup [(.bin .mod (.ix (.var 1) (.int 0)) (.int 3)),(.ix (.var 1) (.int 1)),(.var 13),(.var 14)]),(.var 2),(.tupOf (.var 5)),(.var 4)])]
noncomputable def b8:List CS:=[.asg (.name 2) (.call fP [(.var 0),(.var 1)]),.asg (.name 3) (.lst [(.lst [])]),.for_ (.name 4) (.val (.var 2)) [.asg (.name 5) (.lst []),.for_ (.name 6) (.val (.var 3)) [.asg (.tup [(.name 7),(.name 8)]) (.sl (.ix (.ix (.var 1) (.int 2)) (.var 4)) (some (.int 2)) (some (.int 4))),.ex (.ext (.var 5) (.comp ["_law_minute"] (.bin .add (.var 6) (.lst [(.tup [(.var 4),(.var 11)])])) [⟨(.name 11),(.r2 (.var 7) (.bin .add (.var 8) (.int 1))),none⟩]))],.asg (.name 3) (.var 5)],.asg (.name 9) (.comp ["_law_row"] (.var 11) [⟨(.name 11),(.val (.var 3)),some (.call dr [(.var 1),(.var 11)])⟩]),.asg (.name 10) (.call jh [(.var 1),(.var 2)]),.ifs (.cmp .eq (.var 9) (.lst [])) [.ret (.cmp .eq (.ix (.var 10) (.int 0)) (.str "stuck"))] [],.ifs (.or (.cmp .ne (.ix (.var 10) (.int 0)) (.str "lands")) (.cmp .notin (.ix (.var 10) (.int 1)) (.var 9))) [.ret (.bl false)] [],.for_ (.name 6) (.val (.var 9)) [.ifs (.cmp .ne (.comp ["_law_k"] (.var 11) [⟨(.name 11),(.r1 (.len (.var 6))),some (.cmp .lt (.ix (.ix (.var 6) (.var 11)) (.int 1)) (.ix (.ix (.ix (.var 10) (.int 1)) (.var 11)) (.int 1)))⟩]) (.lst [])) [.ret (.bl false)] []],.ret (.bl true)]
noncomputable def fu:List CS:=[.asg (.name 2) (.call fP [(.var 0),(.var 1)]),.asg (.name 3) (.call jh [(.var 1),(.var 2)]),.ifs (.cmp .eq (.ix (.var 3) (.int 0)) (.str "stuck")) [.ret (.bl true)] [],.ifs (.not (.call dr [(.var 1),(.ix (.var 3) (.int 1))])) [.ret (.bl false)] [],.asg (.name 4) (.comp ["_law_number", "_law_minute"] (.tup [(.var 5),(.bin .add (.var 6) (.bin .mul (.call ae [(.var 0),(.int 4)]) (.call ae [(.var 0),(.int 30)])))]) [⟨(.tup [(.name 5),(.name 6)]),(.val (.ix (.var 3) (.int 1))),none⟩]),.ifs (.not (.call dr [(.var 1),(.var 4)])) [.ret (.bl true)] [],.ret (.all (.comp ["_law_one", "_law_other"] (.cmp .le (.ix (.var 5) (.int 1)) (.ix (.var 6) (.int 1))) [⟨(.tup [(.name 5),(.name 6)]),(.zp (.ix (.var 3) (.int 1)) (.var 4)),none⟩]))]
noncomputable def D4:List CS:=[.for_ (.name 1) (.r1 (.mx (.int 1) (.mn (.len (.var 0)) (.int 6)))) [.asg (.name 2) (.call m9 [(.call gL [(.var 0),(.var 1)])]),.ifs (.or (.not (.call eu [(.var 2),(.call lA [(.var 2)])])) (.not (.call fo [(.var 2),(.call ji [(.var 2),(.int 7)])]))) [.ret (.bl false)] []],.ret (.bl true)]
noncomputable def g8:DefE:=⟨"is_whole", top 6,["thing"],["thing"],lB⟩
noncomputable def fS:DefE:=⟨"is_within", top 7,["thing", "least", "most"],["thing", "least", "most"],jH⟩
noncomputable def fT:DefE:=⟨"is_minute", top 8,["thing"],["thing"],jI⟩
noncomputable def g9:DefE:=⟨"is_tuple", top 9,["thing", "least", "most"],["thing", "least", "most"],lD⟩
noncomputable def eZ:DefE:=⟨"are_unlike", top 10,["thing", "many"],["thing", "many"],iL⟩
noncomputable def fU:DefE:=⟨"is_meadow", top 17,["thing", "rings", "sink", "gaps", "shuts"],["thing"],jJ⟩
noncomputable def hF:DefE:=⟨"are_gaps", top 18,["thing"],["thing"],lH⟩
noncomputable def e9:DefE:=⟨"is_gap_row", top 19,["thing", "many"],["thing", "many"],iM⟩
noncomputable def a9:DefE:=⟨"no_glider_between_helps", top 20,["gaps", "kinds"],["gaps"],bF⟩
noncomputable def fV:DefE:=⟨"are_shuts", top 21,["thing"],["thing"],jK⟩
noncomputable def fb:DefE:=⟨"is_stretch", top 22,["thing"],["thing"],iO⟩
noncomputable def jj:DefE:=⟨"is_kind", top 23,["meadow", "thing"],["meadow", "thing"],nc⟩
noncomputable def b9:DefE:=⟨"first_not_shut", top 24,["meadow", "minute", "begin", "end"],["meadow", "minute"],eA⟩
noncomputable def lX:DefE:=⟨"is_sky", top 28,["thing", "meadow", "ahead", "gliders", "fixed"],["thing"],qu⟩
noncomputable def hJ:DefE:=⟨"is_ahead", top 29,["meadow", "thing"],["meadow", "thing"],lJ⟩
noncomputable def dH:DefE:=⟨"are_gliders", top 30,["meadow", "thing"],["meadow", "thing"],gM⟩
noncomputable def fW:DefE:=⟨"is_glider", top 31,["meadow", "thing", "kind", "joins", "first", "last", "due", "weight", "ring"],["meadow", "thing"],jL⟩
noncomputable def fX:DefE:=⟨"are_fixed", top 32,["gliders", "thing"],["gliders", "thing"],jM⟩
noncomputable def fY:DefE:=⟨"check_sky", top 33,["thing"],["thing"],jN⟩
noncomputable def cw:DefE:=⟨"landing_ahead", top 35,["sky", "sooner", "number", "minute"],["sky", "sooner"],fq⟩
noncomputable def jk:DefE:=⟨"gap_end", top 36,["sky", "ahead", "kind"],["sky", "ahead", "kind"],ng⟩
noncomputable def hR:DefE:=⟨"waits_at", top 37,["sky", "landing", "minute", "number", "lands"],["sky", "landing", "minute"],lK⟩
noncomputable def cx:DefE:=⟨"how_many_wait", top 38,["sky", "landings", "minute"],["sky", "landings", "minute"],ft⟩
noncomputable def bW:DefE:=⟨"joining_minutes", top 39,["sky"],["sky"],dz⟩
noncomputable def dI:DefE:=⟨"is_too_high", top 40,["sky", "landings", "place", "kind", "joins", "first", "last", "due", "weight", "ring"],["sky", "landings", "place"],gN⟩
noncomputable def dJ:DefE:=⟨"ring_needed", top 41,["sky", "landings", "place", "minute", "sooner", "later"],["sky", "landings", "place", "minute"],gO⟩
noncomputable def jl:DefE:=⟨"soonest", top 43,["sky", "order", "landings"],["sky", "order"],nh⟩
noncomputable def hU:DefE:=⟨"is_order", top 44,["sky", "thing", "many"],["sky", "thing"],lO⟩
noncomputable def bK:DefE:=⟨"soonest_landings", top 45,["sky", "numbers", "landings", "place", "number", "minute"],["sky", "numbers"],cM⟩
noncomputable def ca:DefE:=⟨"soonest_minute", top 46,["sky", "ahead", "number", "place", "kind", "joins", "first", "last", "due", "weight", "ring", "minute"],["sky", "ahead", "number", "place"],eB⟩
noncomputable def bX:DefE:=⟨"leaves_too_late", top 47,["sky", "place", "minute", "rings", "sink", "gaps", "shuts", "joins", "one_too_many"],["sky", "place", "minute"],dA⟩
noncomputable def dL:DefE:=⟨"_law_cell_at", top 49,["_law_script", "_law_k"],["_law_script", "_law_k"],gP⟩
noncomputable def jm:DefE:=⟨"_law_pot", top 50,["_law_cell", "_law_number", "_law_j", "_law_more"],["_law_cell"],ni⟩
noncomputable def hV:DefE:=⟨"_law_take", top 51,["_law_pot_here", "_law_wide", "_law_found"],["_law_pot_here", "_law_wide"],lQ⟩
noncomputable def hX:DefE:=⟨"_law_gaps", top 52,["_law_pot_here", "_law_many", "_law_far", "_law_found", "_law_c", "_law_a"],["_law_pot_here"],eY⟩
noncomputable def fc:DefE:=⟨"_law_meadow", top 53,["_law_pot_here", "_law_shuts", "_law_at", "_law_turn", "_law_begin"],["_law_pot_here"],iP⟩
noncomputable def jp:DefE:=⟨"_law_sky", top 54,["_law_pot_here", "_law_most", "_law_meadow_here", "_law_gliders", "_law_wide", "_law_long", "_law_number", "_law_joins", "_law_first", "_law_last", "_law_due", "_law_left", "_law_fixed", "_law_turn", "_law_ahead"],["_law_pot_here", "_law_most"],gy⟩
noncomputable def hY:DefE:=⟨"_law_open", top 55,["_law_shuts", "_law_minute", "_law_begin", "_law_end"],["_law_shuts", "_law_minute"],lU⟩
noncomputable def fZ:DefE:=⟨"_law_waits", top 56,["_law_sky_here", "_law_landed", "_law_at"],["_law_sky_here", "_law_landed", "_law_at"],jO⟩
noncomputable def hZ:DefE:=⟨"_law_need", top 57,["_law_sky_here", "_law_landed", "_law_number", "_law_minute", "_law_joins", "_law_known", "_law_counts"],["_law_sky_here", "_law_landed", "_law_number", "_law_minute"],lV⟩
noncomputable def f7:DefE:=⟨"_law_keeps", top 58,["_law_sky_here", "_law_landed", "_law_ahead", "_law_k", "_law_number", "_law_minute", "_law_kind", "_law_joins", "_law_first", "_law_last", "_law_due", "_law_weight", "_law_ring"],["_law_sky_here", "_law_landed"],dB⟩
noncomputable def cO:DefE:=⟨"_law_shuffled", top 59,["_law_pot_here", "_law_some", "_law_left"],["_law_pot_here", "_law_some"],fQ⟩
noncomputable def f8:DefE:=⟨"_law_order", top 60,["_law_pot_here", "_law_sky_here", "_law_rest"],["_law_pot_here", "_law_sky_here"],fR⟩
noncomputable def ia:DefE:=⟨"_law_near", top 61,["_law_pot_here", "_law_meadow_here", "_law_ahead", "_law_gliders", "_law_fixed", "_law_some", "_law_kind", "_law_joins", "_law_first", "_law_last", "_law_due", "_law_weight", "_law_ring", "_law_gaps_here", "_law_shuts"],["_law_pot_here"],cN⟩
noncomputable def cb:DefE:=⟨"_law_near_right", top 62,["_law_pot_here", "_law_sky_here", "_law_order_here", "_law_rows", "_law_number", "_law_wider", "_law_row", "_law_first", "_law_last", "_law_good", "_law_found"],["_law_pot_here", "_law_sky_here"],b8⟩
noncomputable def cy:DefE:=⟨"_law_far_right", top 63,["_law_pot_here", "_law_sky_here", "_law_order_here", "_law_found", "_law_late"],["_law_pot_here", "_law_sky_here"],fu⟩
noncomputable def uc:DefE:=⟨"law", top 64,["_law_script", "_law_k", "_law_pot_here"],["_law_script"],D4⟩
noncomputable def ag:List DefE:=[g8,fS,fT,g9,eZ,fU,hF,e9,a9,fV,fb,jj,b9,lX,hJ,dH,fW,fX,fY,cw,jk,hR,cx,bW,dI,dJ,jl,hU,bK,ca,bX,dL,jm,hV,hX,fc,jp,hY,fZ,hZ,f7,cO,f8,ia,cb,cy,uc]
noncomputable def con:List (Str × Int):=[("LAST_MINUTE", 9999),("MOST_RINGS", 8),("MOST_SINK", 60),("MOST_KINDS", 4),("MOST_GAP", 99),("MOST_SHUTS", 4),("MOST_GLIDERS", 7),("MOST_WEIGHT", 99)]
end Lw
namespace Lw
open PySem Ev
theorem chk:ag.all (BA (t7 con ag))=true:=by kernel_rfl
theorem us1:∀ {us:List Value},us.length=1->∃ a0,us=[a0]
 | [a0],_=>⟨a0,rfl⟩
theorem us2:∀ {us:List Value},us.length=2->∃ a0 a1,us=[a0,a1]
 | [a0,a1],_=>⟨a0,a1,rfl⟩
theorem us3:∀ {us:List Value},us.length=3->∃ a0 a1 a2,us=[a0,a1,a2]
 | [a0,a1,a2],_=>⟨a0,a1,a2,rfl⟩
theorem us4:∀ {us:List Value},us.length=4->∃ a0 a1 a2 a3,us=[a0,a1,a2,a3]
 | [a0,a1,a2,a3],_=>⟨a0,a1,a2,a3,rfl⟩
theorem bind:vQ ag:=
 ⟨fun _ _ _ _ _ _ us hl=>by obtain ⟨_,rfl⟩:=us1 hl;rfl,
  fun _ _ _ _ _ _ us hl=>by obtain ⟨_,_,_,rfl⟩:=us3 hl;rfl,
  fun _ _ _ _ _ _ us hl=>by obtain ⟨_,rfl⟩:=us1 hl;rfl,
  fun _ _ _ _ _ _ us hl=>by obtain ⟨_,_,_,rfl⟩:=us3 hl;rfl,
  fun _ _ _ _ _ _ us hl=>by obtain ⟨_,_,rfl⟩:=us2 hl;rfl,
  fun _ _ _ _ _ _ us hl=>by obtain ⟨_,rfl⟩:=us1 hl;rfl,
  fun _ _ _ _ _ _ us hl=>by obtain ⟨_,rfl⟩:=us1 hl;rfl,
  fun _ _ _ _ _ _ us hl=>by obtain ⟨_,_,rfl⟩:=us2 hl;rfl,
  fun _ _ _ _ _ _ us hl=>by obtain ⟨_,rfl⟩:=us1 hl;rfl,
  fun _ _ _ _ _ _ us hl=>by obtain ⟨_,rfl⟩:=us1 hl;rfl,
  fun _ _ _ _ _ _ us hl=>by obtain ⟨_,rfl⟩:=us1 hl;rfl,
  fun _ _ _ _ _ _ us hl=>by obtain ⟨_,_,rfl⟩:=us2 hl;rfl,
  fun _ _ _ _ _ _ us hl=>by obtain ⟨_,_,rfl⟩:=us2 hl;rfl,
  fun _ _ _ _ _ _ us hl=>by obtain ⟨_,rfl⟩:=us1 hl;rfl,
  fun _ _ _ _ _ _ us hl=>by obtain ⟨_,_,rfl⟩:=us2 hl;rfl,
  fun _ _ _ _ _ _ us hl=>by obtain ⟨_,_,rfl⟩:=us2 hl;rfl,
  fun _ _ _ _ _ _ us hl=>by obtain ⟨_,_,rfl⟩:=us2 hl;rfl,
  fun _ _ _ _ _ _ us hl=>by obtain ⟨_,_,rfl⟩:=us2 hl;rfl,
  fun _ _ _ _ _ _ us hl=>by obtain ⟨_,rfl⟩:=us1 hl;rfl,
  fun _ _ _ _ _ _ us hl=>by obtain ⟨_,_,rfl⟩:=us2 hl;rfl,
  fun _ _ _ _ _ _ us hl=>by obtain ⟨_,_,_,rfl⟩:=us3 hl;rfl,
  fun _ _ _ _ _ _ us hl=>by obtain ⟨_,_,_,rfl⟩:=us3 hl;rfl,
  fun _ _ _ _ _ _ us hl=>by obtain ⟨_,_,_,rfl⟩:=us3 hl;rfl,
  fun _ _ _ _ _ _ us hl=>by obtain ⟨_,rfl⟩:=us1 hl;rfl,
  fun _ _ _ _ _ _ us hl=>by obtain ⟨_,_,_,rfl⟩:=us3 hl;rfl,
  fun _ _ _ _ _ _ us hl=>by obtain ⟨_,_,_,_,rfl⟩:=us4 hl;rfl,
  fun _ _ _ _ _ _ us hl=>by obtain ⟨_,_,rfl⟩:=us2 hl;rfl,
  fun _ _ _ _ _ _ us hl=>by obtain ⟨_,_,rfl⟩:=us2 hl;rfl,
  fun _ _ _ _ _ _ us hl=>by obtain ⟨_,_,rfl⟩:=us2 hl;rfl,
  fun _ _ _ _ _ _ us hl=>by obtain ⟨_,_,_,_,rfl⟩:=us4 hl;rfl,
  fun _ _ _ _ _ _ us hl=>by obtain ⟨_,_,_,rfl⟩:=us3 hl;rfl,
  fun _ _ _ _ _ _ us hl=>by obtain ⟨_,_,rfl⟩:=us2 hl;rfl,
  fun _ _ _ _ _ _ us hl=>by obtain ⟨_,rfl⟩:=us1 hl;rfl,
  fun _ _ _ _ _ _ us hl=>by obtain ⟨_,_,rfl⟩:=us2 hl;rfl,
  fun _ _ _ _ _ _ us hl=>by obtain ⟨_,rfl⟩:=us1 hl;rfl,
  fun _ _ _ _ _ _ us hl=>by obtain ⟨_,rfl⟩:=us1 hl;rfl,
  fun _ _ _ _ _ _ us hl=>by obtain ⟨_,_,rfl⟩:=us2 hl;rfl,
  fun _ _ _ _ _ _ us hl=>by obtain ⟨_,_,rfl⟩:=us2 hl;rfl,
  fun _ _ _ _ _ _ us hl=>by obtain ⟨_,_,_,rfl⟩:=us3 hl;rfl,
  fun _ _ _ _ _ _ us hl=>by obtain ⟨_,_,_,_,rfl⟩:=us4 hl;rfl,
  fun _ _ _ _ _ _ us hl=>by obtain ⟨_,_,rfl⟩:=us2 hl;rfl,
  fun _ _ _ _ _ _ us hl=>by obtain ⟨_,_,rfl⟩:=us2 hl;rfl,
  fun _ _ _ _ _ _ us hl=>by obtain ⟨_,_,rfl⟩:=us2 hl;rfl,
  fun _ _ _ _ _ _ us hl=>by obtain ⟨_,rfl⟩:=us1 hl;rfl,
  fun _ _ _ _ _ _ us hl=>by obtain ⟨_,_,rfl⟩:=us2 hl;rfl,
  fun _ _ _ _ _ _ us hl=>by obtain ⟨_,_,rfl⟩:=us2 hl;rfl,
  fun _ _ _ _ _ _ us hl=>by obtain ⟨_,rfl⟩:=us1 hl;rfl,trivial⟩
end Lw
section
open PySem PySem.W PyProof.Rows
noncomputable abbrev Lw.view:Program:={ PySem.Challenge.pw_downrings_k33_whole_soonest_are_least with main:={ PySem.Challenge.pw_downrings_k33_whole_soonest_are_least.main with body:=[Lw.top 64] } }
noncomputable abbrev Lw.loose:List PySem.Str:=[Str.ofString "is_whole", Str.ofString "is_within", Str.ofString "is_minute", Str.ofString "is_tuple", Str.ofString "are_unlike", Str.ofString "is_meadow", Str.ofString "are_gaps", Str.ofString "is_gap_row", Str.ofString "no_glider_between_helps", Str.ofString "are_shuts", Str.ofString "is_stretch", Str.ofString "is_kind", Str.ofString "first_not_shut", Str.ofString "is_sky", Str.ofString "is_ahead", Str.ofString "are_gliders", Str.ofString "is_glider", Str.ofString "are_fixed", Str.ofString "check_sky", Str.ofString "landing_ahead", Str.ofString "gap_end", Str.ofString "waits_at", Str.ofString "how_many_wait", Str.ofString "joining_minutes", Str.ofString "is_too_high", Str.ofString "ring_needed", Str.ofString "soonest", Str.ofString "is_order", Str.ofString "soonest_landings", Str.ofString "soonest_minute", Str.ofString "leaves_too_late", Str.ofString "_law_cell_at", Str.ofString "_law_pot", Str.ofString "_law_take", Str.ofString "_law_gaps", Str.ofString "_law_meadow", Str.ofString "_law_sky", Str.ofString "_law_open", Str.ofString "_law_waits", Str.ofString "_law_need", Str.ofString "_law_keeps", Str.ofString "_law_shuffled", Str.ofString "_law_order", Str.ofString "_law_near", Str.ofString "_law_near_right", Str.ofString "_law_far_right", Str.ofString "LAST_MINUTE", Str.ofString "MOST_RINGS", Str.ofString "MOST_SINK", Str.ofString "MOST_KINDS", Str.ofString "MOST_GAP", Str.ofString "MOST_SHUTS", Str.ofString "MOST_GLIDERS", Str.ofString "MOST_WEIGHT", Str.ofString "RingError", Str.ofString "NoSky", Str.ofString "NoOrder"]
set_option maxHeartbeats 0 in
theorem Lw.said:PySem.Challenge.rw_downrings_k33_whole_soonest_are_least.wellSaid=true:=by kernel_rfl
set_option maxHeartbeats 0 in
theorem Lw.head (hmain:∀ ns:List Int,ns.length<=63->∃ S',Ev.evC Lw.ag 40 Lw.ub [.ref 0] [.frz (ns.map Ev.D.int)]=some (.bl true,S')):PySem.Challenge.rw_downrings_k33_whole_soonest_are_least.Holds:=by
 w_on;refine holds_law Lw.said fun said=>?_
 refine holds_open (q:=Lw.view) (loose:=Lw.loose) (Xt:=fun s=>xlAt Lw.view [] s && recOk (RowW.records PySem.Challenge.rw_downrings_k33_whole_soonest_are_least.row.toRowW) s) (XP:=XL Lw.view []) (Yf:=Hook.obs (Ev.oQ Lw.con Lw.ag Lw.bind)) (Ya:=Hook.val (Ev.oQ Lw.con Lw.ag Lw.bind)) (YP:=Hook.says (Ev.oQ Lw.con Lw.ag Lw.bind)) (N:=12000) ?hl (Hook.of _) (Hook.keeps _) (fun s e=>xl_of s (Bool.and_eq_true_iff.mp e).1) XL.keeps (by rfl) (by rfl) (by rfl) (fun s e=>recFacts_of (Bool.and_eq_true_iff.mp e).2) (by rfl) (by first | assumption | decide +kernel) (by decide +kernel) ⟨rfl,rfl,rfl,rfl,rfl,by decide +kernel⟩ ?hw ?hc
 case hw=>w_witness2
 case hl=>exact fun w=>by kernel_rfl
 case hc=>exact Ev.BE (l:=PySem.Challenge.rw_downrings_k33_whole_soonest_are_least) (n:=63) (k:=40) (i:=Lw.ub) (dl:=Lw.uc) rfl (by decide) rfl ⟨rfl,by decide,by decide,rfl⟩ rfl rfl rfl Lw.chk hmain
end
namespace Ev
open PySem PySem.Spec PyProof.Rows L2
noncomputable def Ok {α:Type} (x:Option (α × Sto)) (Q:α->Sto->Prop):Prop:=∃ a S,x=some (a,S)/\Q a S
noncomputable def OkS (x:Option (Fl × Rho × Sto)) (Q:Fl->Rho->Sto->Prop):Prop:=∃ f ρ S,x=some (f,ρ,S)/\Q f ρ S
section
variable {α β:Type} {S S':Sto} {ρ ρ':Rho}
theorem am {a:α} {Q:α->Sto->Prop}:Ok (some (a,S)) Q=Q a S:=by
 apply propext
 exact ⟨fun ⟨_,_,e,q⟩=>by cases e;exact q,fun q=>⟨a,S,rfl,q⟩⟩
theorem aV {Q:α->Sto->Prop}:Ok none Q=False:=propext ⟨fun ⟨_,_,e,_⟩=>(nomatch e),fun h=>h.elim⟩
theorem bA {x:Option (α × Sto)} {f:α->Sto->Option (β × Sto)} {Q:β->Sto->Prop}:Ok (bnd x f) Q=Ok x fun a S=>Ok (f a S) Q:=by
 apply propext
 constructor
 ·rintro ⟨b,S',e,q⟩
  obtain ⟨a,S,e1,e2⟩:=ab e
  exact ⟨a,S,e1,b,S',e2,q⟩
 ·rintro ⟨a,S,e1,b,S',e2,q⟩
  exact ⟨b,S',by rw [e1];exact e2,q⟩
theorem cP {c:Prop} [Decidable c] {x y:Option (α × Sto)} {Q:α->Sto->Prop}:Ok (if c then x else y) Q=if c then Ok x Q else Ok y Q:=by split <;> rfl
theorem Gh {x:Option β} {f:β->α × Sto} {Q:α->Sto->Prop}:Ok (x.map f) Q=∃ b,x=some b/\Q (f b).1 (f b).2:=by
 apply propext
 cases x with
 | none=>exact ⟨fun ⟨_,_,e,_⟩=>(nomatch e),fun ⟨_,e,_⟩=>(nomatch e)⟩
 | some b=>exact ⟨fun ⟨a,S,e,q⟩=>⟨b,rfl,by have e':=Option.some.inj e;rw [e'];exact q⟩,fun ⟨b',e,q⟩=>by cases e;exact ⟨_,_,rfl,q⟩⟩
theorem Ok.mono {x:Option (α × Sto)} {Q Q':α->Sto->Prop} (h:Ok x Q) (f:∀ a S,Q a S->Q' a S):Ok x Q':=let ⟨a,S,e,q⟩:=h;⟨a,S,e,f a S q⟩
theorem OkS.mono {x:Option (Fl × Rho × Sto)} {Q Q':Fl->Rho->Sto->Prop} (h:OkS x Q) (f:∀ a ρ S,Q a ρ S->Q' a ρ S):OkS x Q':=let ⟨a,ρ,S,e,q⟩:=h;⟨a,ρ,S,e,f a ρ S q⟩
noncomputable def nxt (y:XS) (Q:Fl->Rho->Sto->Prop) (f:Fl) (ρ:Rho) (S:Sto):Prop:=match f with
 | .nx=>OkS (y ρ S) Q
 | f=>Q f ρ S
theorem BF {x y:XS} {Q:Fl->Rho->Sto->Prop}:OkS (xW x y ρ S) Q=OkS (x ρ S) (nxt y Q):=by
 apply propext
 unfold xW
 constructor
 ·rintro ⟨f,ρ1,S1,e,q⟩
  split at e
  ·cases e
  ·rename_i ρ2 S2 h;exact ⟨_,_,_,h,f,ρ1,S1,e,q⟩
  ·rename_i r n h
   cases e
   cases f with
   | nx=>exact absurd rfl (n ρ1 S1)
   | _=>exact ⟨_,_,_,h,q⟩
 ·rintro ⟨f,ρ1,S1,e,q⟩
  rw [e]
  cases f with
  | nx=>exact q
  | _=>exact ⟨_,_,_,rfl,q⟩
theorem Gi {c:XT} {x y:XS} {Q:Fl->Rho->Sto->Prop}:OkS (xIf c x y ρ S) Q=Ok (c ρ S) fun b S1=>if b=true then OkS (x ρ S1) Q else OkS (y ρ S1) Q:=by
 apply propext
 unfold xIf
 constructor
 ·rintro ⟨f,ρ1,S1,e,q⟩
  cases h:c ρ S with
  | none=>rw [h] at e;cases e
  | some r=>
   obtain ⟨b,S2⟩:=r
   rw [h] at e
   refine ⟨b,S2,rfl,?_⟩
   dsimp only at e ⊢
   split
   ·rename_i hb;rw [if_pos hb] at e;exact ⟨f,ρ1,S1,e,q⟩
   ·rename_i hb;rw [if_neg hb] at e;exact ⟨f,ρ1,S1,e,q⟩
 ·rintro ⟨b,S2,e,q⟩
  rw [e]
  dsimp only
  split
  ·rename_i hb;rw [if_pos hb] at q;exact q
  ·rename_i hb;rw [if_neg hb] at q;exact q
theorem BG {x:XE} {t:Tg} {Q:Fl->Rho->Sto->Prop}:OkS (kS x t ρ S) Q=Ok (x ρ S) fun d S1=>∃ ρ1,ao t d ρ=some ρ1/\Q .nx ρ1 S1:=by
 apply propext
 unfold kS
 constructor
 ·rintro ⟨f,ρ1,S1,e,q⟩
  cases h:x ρ S with
  | none=>rw [h] at e;cases e
  | some r=>
   obtain ⟨d,S2⟩:=r
   rw [h] at e
   dsimp only at e
   cases h2:ao t d ρ with
   | none=>rw [h2] at e;cases e
   | some ρ2=>rw [h2] at e;cases e;exact ⟨d,_,rfl,ρ1,h2,q⟩
 ·rintro ⟨d,S2,e,ρ1,e2,q⟩
  rw [e]
  dsimp only
  rw [e2]
  exact ⟨_,_,_,rfl,q⟩
theorem yO {x:XE} {Q:Fl->Rho->Sto->Prop}:OkS (qb x ρ S) Q=Ok (x ρ S) fun _ S1=>Q .nx ρ S1:=by
 apply propext
 unfold qb
 constructor
 ·rintro ⟨f,ρ1,S1,e,q⟩
  cases h:x ρ S with
  | none=>rw [h] at e;cases e
  | some r=>rw [h] at e;cases e;exact ⟨_,_,rfl,q⟩
 ·rintro ⟨d,S2,e,q⟩
  rw [e];exact ⟨_,_,_,rfl,q⟩
theorem BH {x:XE} {Q:Fl->Rho->Sto->Prop}:OkS (xX x ρ S) Q=Ok (x ρ S) fun d S1=>Q (.rt d) ρ S1:=by
 apply propext
 unfold xX
 constructor
 ·rintro ⟨f,ρ1,S1,e,q⟩
  cases h:x ρ S with
  | none=>rw [h] at e;cases e
  | some r=>rw [h] at e;cases e;exact ⟨_,_,rfl,q⟩
 ·rintro ⟨d,S2,e,q⟩
  rw [e];exact ⟨_,_,_,rfl,q⟩
theorem yP {v o i:XE} {Q:Fl->Rho->Sto->Prop}:OkS (qc v o i ρ S) Q=Ok (v ρ S) fun a S1=>Ok (o ρ S1) fun b S2=>Ok (i ρ S2) fun c S3=>∃ S4,kQ b c a S3=some S4/\Q .nx ρ S4:=by
 apply propext
 unfold qc
 constructor
 ·rintro ⟨f,ρ1,S1,e,q⟩
  cases h:v ρ S with
  | none=>rw [h] at e;cases e
  | some r=>
   rw [h] at e
   dsimp only at e
   cases h2:o ρ r.2 with
   | none=>rw [h2] at e;cases e
   | some r2=>
    rw [h2] at e
    dsimp only at e
    cases h3:i ρ r2.2 with
    | none=>rw [h3] at e;cases e
    | some r3=>
     rw [h3] at e
     dsimp only at e
     cases h4:kQ r2.1 r3.1 r.1 r3.2 with
     | none=>rw [h4] at e;cases e
     | some S4=>rw [h4] at e;cases e;exact ⟨_,_,rfl,_,_,h2,_,_,h3,_,h4,q⟩
 ·rintro ⟨a,S1,e1,b,S2,e2,c,S3,e3,S4,e4,q⟩
  rw [e1];dsimp only;rw [e2];dsimp only;rw [e3];dsimp only;rw [e4];exact ⟨_,_,_,rfl,q⟩
theorem BI {it:XI} {tg:Tg} {b:XS} {k:Nat} {Q:Fl->Rho->Sto->Prop}:OkS (xY it tg b k ρ S) Q=Ok (it ρ S) fun nx S1=>OkS (dX nx tg b k 0 ρ S1) Q:=by
 apply propext
 unfold xY
 constructor
 ·rintro ⟨f,ρ1,S1,e,q⟩
  cases h:it ρ S with
  | none=>rw [h] at e;cases e
  | some r=>rw [h] at e;exact ⟨_,_,rfl,_,_,_,e,q⟩
 ·rintro ⟨d,S2,e,q⟩
  rw [e];exact q
noncomputable def out (Q:D->Sto->Prop) (f:Fl) (_:Rho) (S:Sto):Prop:=match f with
 | .rt v=>Q v S
 | .nx=>Q .non S
 | _=>False
theorem Gj {Q:D->Sto->Prop} {d:D}:out Q (.rt d) ρ S=Q d S:=rfl
theorem Gk {Q:D->Sto->Prop}:out Q .nx ρ S=Q .non S:=rfl
theorem aE {ag:List DefE} {k f:Nat} {d:DefE} {ds:List D} {Q:D->Sto->Prop} (hd:ag[f]?=some d) (hρ:ds.map some++List.replicate (d.N.length - ds.length) none=ρ) (h:OkS (gZ (evC ag k) (fN ag) 60 d.body ρ S) (out Q)):Ok (evC ag (k+1) f ds S) Q:=by
 subst hρ
 simp only [evC,hd,Gd]
 obtain ⟨fl,ρ1,S1,e,q⟩:=h
 show Ok (match gZ (evC ag k) (fN ag) FU d.body _ S with | some (.rt v,_,S')=>some (v,S') | some (.nx,_,S')=>some (.non,S') | _=>none) Q
 unfold FU
 rw [e]
 cases fl with
 | rt v=>exact ⟨_,_,rfl,q⟩
 | nx=>exact ⟨_,_,rfl,q⟩
 | bk=>exact q.elim
 | ct=>exact q.elim
theorem nj {nx:Nxt} {tg:Tg} {c:XA} {N:Nat} (I:Nat->List D->Sto->Prop)
  (step:∀ i acc S,i < N->I i acc S->∃ d ρ1,nx i S=some (some d)/\ao tg d ρ=some ρ1/\Ok (c ρ1 S) fun es S1=>I (i+1) (acc++es) S1) (stop:∀ acc S,I N acc S->nx N S=some none) :
  ∀ (n i k:Nat) (acc:List D) (S:Sto),N=i+n->n < k->I i acc S->Ok (aX nx tg c ρ k i S) fun es S'=>I N (acc++es) S'
 | 0,i,k+1,acc,S,hN,hk,h=>by
  obtain rfl:N=i:=by omega
  simp only [aX,stop acc S h]
  exact ⟨_,_,rfl,by show I _ (acc++[]) S;rw [List.append_nil];exact h⟩
 | n+1,i,k+1,acc,S,hN,hk,h=>by
  obtain ⟨d,ρ1,e1,e2,es,S1,e3,h'⟩:=step i acc S (by omega) h
  simp only [aX,e1,e2,e3,bnd]
  obtain ⟨rs,S2,e4,h2⟩:=nj I step stop n (i+1) k (acc++es) S1 (by omega) (by omega) h'
  simp only [e4]
  exact ⟨_,_,rfl,by show I _ (acc++(es++rs)) S2;rw [<-List.append_assoc];exact h2⟩
theorem cQ {nx:Nxt} {tg:Tg} {c:XA} {k:Nat} (N:Nat) (I:Nat->List D->Sto->Prop) (hk:N < k)
  (step:∀ i acc S,i < N->I i acc S->∃ d ρ1,nx i S=some (some d)/\ao tg d ρ=some ρ1/\Ok (c ρ1 S) fun es S1=>I (i+1) (acc++es) S1) (stop:∀ acc S,I N acc S->nx N S=some none) (h:I 0 [] S) :
  Ok (aX nx tg c ρ k 0 S) (I N):=(nj I step stop N 0 k [] S (by omega) hk h).mono fun es S' z=>by rw [List.nil_append] at z;exact z
theorem lY {nx:Nxt} {tg:Tg} {b:XS} {N:Nat} {Q:Fl->Rho->Sto->Prop} (I:Nat->Rho->Sto->Prop)
  (step:∀ i ρ S,i < N->I i ρ S->∃ d ρ1,nx i S=some (some d)/\ao tg d ρ=some ρ1/\OkS (b ρ1 S) fun fl ρ2 S2=>match fl with | .nx=>I (i+1) ρ2 S2 | .ct=>I (i+1) ρ2 S2 | .bk=>Q .nx ρ2 S2 | .rt d=>Q (.rt d) ρ2 S2)
  (stop:∀ ρ S,I N ρ S->nx N S=some none/\Q .nx ρ S) :
  ∀ (n i k:Nat) (ρ:Rho) (S:Sto),N=i+n->n < k->I i ρ S->OkS (dX nx tg b k i ρ S) Q
 | 0,i,k+1,ρ,S,hN,hk,h=>by
  obtain rfl:N=i:=by omega
  simp only [dX,(stop ρ S h).1]
  exact ⟨_,_,_,rfl,(stop ρ S h).2⟩
 | n+1,i,k+1,ρ,S,hN,hk,h=>by
  obtain ⟨d,ρ1,e1,e2,fl,ρ2,S2,e3,h'⟩:=step i ρ S (by omega) h
  simp only [dX,e1,e2,e3]
  cases fl with
  | nx=>exact lY I step stop n (i+1) k ρ2 S2 (by omega) (by omega) h'
  | ct=>exact lY I step stop n (i+1) k ρ2 S2 (by omega) (by omega) h'
  | bk=>exact ⟨_,_,_,rfl,h'⟩
  | rt d=>exact ⟨_,_,_,rfl,h'⟩
theorem iQ {nx:Nxt} {tg:Tg} {b:XS} {k:Nat} {Q:Fl->Rho->Sto->Prop} (N:Nat) (I:Nat->Rho->Sto->Prop) (hk:N < k)
  (step:∀ i ρ S,i < N->I i ρ S->∃ d ρ1,nx i S=some (some d)/\ao tg d ρ=some ρ1/\OkS (b ρ1 S) fun fl ρ2 S2=>match fl with | .nx=>I (i+1) ρ2 S2 | .ct=>I (i+1) ρ2 S2 | .bk=>Q .nx ρ2 S2 | .rt d=>Q (.rt d) ρ2 S2)
  (stop:∀ ρ S,I N ρ S->nx N S=some none/\Q .nx ρ S) (h:I 0 ρ S):OkS (dX nx tg b k 0 ρ S) Q:=lY I step stop N 0 k ρ S (by omega) hk h
end
mutual
noncomputable def TD (p:Nat) (S:Sto):Dw.D->D->Prop
 | .non,d=>d = .non
 | .bl b,d=>d = .bl b
 | .int i,d=>d = .int i
 | .str x,d=>d = .str x
 | .tup ts,d=>∃ ds,d = .tup ds/\TDs p S ts ds
 | .lst ts,d=>∃ n ds,d = .ref n/\n ≠ p/\S[n]?=some (.lst ds)/\TDs p S ts ds
 | .dic ks ts,d=>∃ n ds,d = .ref n/\n ≠ p/\S[n]?=some (.dic ks ds)/\TDs p S ts ds
noncomputable def TDs (p:Nat) (S:Sto):List Dw.D->List D->Prop
 | [],ds=>ds=[]
 | t::ts,ds=>∃ d r,ds=d::r/\TD p S t d/\TDs p S ts r
end
noncomputable def Kp (p:Nat) (S S':Sto):Prop:=∀ i o,i ≠ p->S[i]?=some o->S'[i]?=some o
noncomputable def Sm (S S':Sto):Prop:=∀ (i:Nat) (o:Ob),S[i]?=some o->S'[i]?=some o
theorem Sm.kp {p:Nat} {S S':Sto} (h:Sm S S'):Kp p S S':=fun i o _ e=>h i o e
theorem Sm.refl (S:Sto):Sm S S:=fun _ _ e=>e
theorem Sm.trans {S S1 S2:Sto} (a:Sm S S1) (b:Sm S1 S2):Sm S S2:=fun i o e=>b i o (a i o e)
theorem Sm.app (S X:Sto):Sm S (S++X):=fun i o e=>by
 have hi:=(List.getElem?_eq_some_iff.mp e).1
 rw [List.getElem?_append_left hi];exact e
theorem Kp.refl (p:Nat) (S:Sto):Kp p S S:=fun _ _ _ e=>e
theorem Kp.trans {p:Nat} {S S1 S2:Sto} (a:Kp p S S1) (b:Kp p S1 S2):Kp p S S2:=fun i o n e=>b i o n (a i o n e)
mutual
theorem TD.keep {p:Nat} {S S':Sto} (k:Kp p S S'):∀ {t:Dw.D} {d:D},TD p S t d->TD p S' t d
 | .non,_,h=>by rw [TD] at h ⊢;exact h
 | .bl _,_,h=>by rw [TD] at h ⊢;exact h
 | .int _,_,h=>by rw [TD] at h ⊢;exact h
 | .str _,_,h=>by rw [TD] at h ⊢;exact h
 | .tup ts,_,h=>by rw [TD] at h ⊢;obtain ⟨ds,e,q⟩:=h;exact ⟨ds,e,TDs.keep k q⟩
 | .lst ts,_,h=>by rw [TD] at h ⊢;obtain ⟨n,ds,e,ne,a,q⟩:=h;exact ⟨n,ds,e,ne,k _ _ ne a,TDs.keep k q⟩
 | .dic ks ts,_,h=>by rw [TD] at h ⊢;obtain ⟨n,ds,e,ne,a,q⟩:=h;exact ⟨n,ds,e,ne,k _ _ ne a,TDs.keep k q⟩
theorem TDs.keep {p:Nat} {S S':Sto} (k:Kp p S S'):∀ {ts:List Dw.D} {ds:List D},TDs p S ts ds->TDs p S' ts ds
 | [],_,h=>by rw [TDs] at h ⊢;exact h
 | t::ts,_,h=>by rw [TDs] at h ⊢;obtain ⟨d,r,e,a,q⟩:=h;exact ⟨d,r,e,TD.keep k a,TDs.keep k q⟩
end
section
variable {p:Nat} {S S':Sto}
theorem Gm:TD p S .non .non:=by rw [TD]
theorem ib {i:Int}:TD p S (.int i) (.int i):=by rw [TD]
theorem dM {ts:List Dw.D} {ds:List D} (h:TDs p S ts ds):TD p S (.tup ts) (.tup ds):=by rw [TD];exact ⟨ds,rfl,h⟩
theorem dC:TDs p S [] []:=by rw [TDs]
theorem aN {t:Dw.D} {d:D} {ts:List Dw.D} {ds:List D} (h:TD p S t d) (q:TDs p S ts ds):TDs p S (t::ts) (d::ds):=by rw [TDs];exact ⟨d,ds,rfl,h,q⟩
theorem TD.non {d:D} (h:TD p S .non d):d = .non:=by rw [TD] at h;exact h
theorem TD.bl {b:Bool} {d:D} (h:TD p S (.bl b) d):d = .bl b:=by rw [TD] at h;exact h
theorem TD.int {i:Int} {d:D} (h:TD p S (.int i) d):d = .int i:=by rw [TD] at h;exact h
theorem TD.str {x:Str} {d:D} (h:TD p S (.str x) d):d = .str x:=by rw [TD] at h;exact h
theorem TD.tup {ts:List Dw.D} {d:D} (h:TD p S (.tup ts) d):∃ ds,d = .tup ds/\TDs p S ts ds:=by rw [TD] at h;exact h
theorem TDs.cons {t:Dw.D} {ts:List Dw.D} {ds:List D} (h:TDs p S (t::ts) ds):∃ d r,ds=d::r/\TD p S t d/\TDs p S ts r:=by rw [TDs] at h;exact h
theorem TDs.nil {ds:List D} (h:TDs p S [] ds):ds=[]:=by rw [TDs] at h;exact h
theorem TDs.len:∀ {ts:List Dw.D} {ds:List D},TDs p S ts ds->ds.length=ts.length
 | [],_,h=>by rw [h.nil];rfl
 | t::ts,_,h=>by obtain ⟨d,r,rfl,_,q⟩:=h.cons;simp [q.len]
theorem TDs.get:∀ {ts:List Dw.D} {ds:List D} {i:Nat} {t:Dw.D},TDs p S ts ds->ts[i]?=some t->∃ d,ds[i]?=some d/\TD p S t d
 | [],_,_,_,_,e=>by simp at e
 | t::ts,_,0,_,h,e=>by obtain ⟨d,r,rfl,a,q⟩:=h.cons;simp at e;subst e;exact ⟨d,rfl,a⟩
 | t::ts,_,i+1,_,h,e=>by obtain ⟨d,r,rfl,a,q⟩:=h.cons;simp at e;obtain ⟨x,hx,y⟩:=q.get e;exact ⟨x,by simpa using hx,y⟩
noncomputable def tyT:Dw.D->String
 | .non => "NoneType" | .bl _ => "bool" | .int _ => "int" | .str _ => "str" | .tup _ => "tuple" | .lst _ => "list" | .dic _ _ => "dict"
theorem Ks {t:Dw.D} {d:D} (h:TD p S t d):tyN d S=some (tyT t):=by
 cases t with
 | non=>rw [h.non];rfl
 | bl _=>rw [h.bl];rfl
 | int _=>rw [h.int];rfl
 | str _=>rw [h.str];rfl
 | tup _=>obtain ⟨_,rfl,_⟩:=h.tup;rfl
 | lst _=>rw [TD] at h;obtain ⟨n,ds,rfl,_,e,_⟩:=h;simp only [tyN,e];rfl
 | dic _ _=>rw [TD] at h;obtain ⟨n,ds,rfl,_,e,_⟩:=h;simp only [tyN,e];rfl
theorem oS {ty:Ty} {t:Dw.D} {d:D} (h:TD p S t d):kI ty d S=some (.bl (fG ty (tyT t)),S):=by
 unfold kI;rw [Ks h];rfl
end
end Ev
namespace Ev
open PySem PySem.Spec PyProof.Rows L2
theorem BJ {g:List D->Sto->Option (D × Sto)} {n:Nat} {x:XA} {ρ:Rho} {S:Sto} {Q:D->Sto->Prop}:Ok (qf g n x ρ S) Q=Ok (x ρ S) fun ds S1=>ds.length=n/\Ok (g ds S1) Q:=by
 unfold qf
 rw [bA]
 congr 1
 funext ds S1
 rw [cP,aV]
 apply propext
 split
 ·rename_i h;exact ⟨fun z=>⟨h,z⟩,fun z=>z.2⟩
 ·rename_i h;exact ⟨fun z=>z.elim,fun z=>(h z.1).elim⟩
theorem Gn {x y:XE} {ρ:Rho} {S:Sto} {Q:D->Sto->Prop}:Ok (x8 x y ρ S) Q=Ok (x ρ S) fun d S1=>∃ b,d = .bl b/\if b=true then Ok (y ρ S1) Q else Q (.bl false) S1:=by
 unfold x8
 rw [bA]
 congr 1
 funext d S1
 apply propext
 cases d with
 | bl b=>cases b <;> simp [am]
 | _=>simp [aV]
theorem Kt {x y:XE} {ρ:Rho} {S:Sto} {Q:D->Sto->Prop}:Ok (xOr x y ρ S) Q=Ok (x ρ S) fun d S1=>∃ b,d = .bl b/\if b=true then Q (.bl true) S1 else Ok (y ρ S1) Q:=by
 unfold xOr
 rw [bA]
 congr 1
 funext d S1
 apply propext
 cases d with
 | bl b=>cases b <;> simp [am]
 | _=>simp [aV]
theorem Go {d:D} {S:Sto} {Q:D->Sto->Prop}:Ok (vH d S) Q=∃ b,d = .bl b/\Q (.bl (!b)) S:=by
 apply propext
 cases d with
 | bl b=>simp [vH,am]
 | _=>simp [vH,aV]
theorem Gp {f g:D->D->Sto->Option (D × Sto)} {x y z:XE} {ρ:Rho} {S:Sto} {Q:D->Sto->Prop}:Ok (vI f g x y z ρ S) Q=Ok (x ρ S) fun a S1=>Ok (y ρ S1) fun b S2=>Ok (f a b S2) fun r S3=>∃ c,r = .bl c/\if c=true then Ok (z ρ S3) fun e S4=>Ok (g b e S4) Q else Q (.bl false) S3:=by
 unfold vI
 rw [bA]
 congr 1
 funext a S1
 rw [bA]
 congr 1
 funext b S2
 rw [bA]
 congr 1
 funext r S3
 apply propext
 cases r with
 | bl c=>cases c <;> simp [am,bA]
 | _=>simp [aV]
theorem Gq {i:Nat} {ρ:Rho} {S:Sto} {Q:D->Sto->Prop}:Ok (vf i ρ S) Q=∃ d,ρ[i]?=some (some d)/\Q d S:=by
 apply propext
 unfold vf
 cases h:ρ[i]? with
 | none=>simp [aV]
 | some o=>cases o with
  | none=>simp [aV]
  | some d=>simp [am]
theorem Ku {i j:Int} {S:Sto} {Q:D->Sto->Prop}:Ok (av .le (.int i) (.int j) S) Q=Q (.bl (decide (i<=j))) S:=am
theorem Kv {i j:Int} {S:Sto} {Q:D->Sto->Prop}:Ok (av .lt (.int i) (.int j) S) Q=Q (.bl (decide (i < j))) S:=am
theorem Kw {i j:Int} {S:Sto} {Q:D->Sto->Prop}:Ok (av .gt (.int i) (.int j) S) Q=Q (.bl (decide (j < i))) S:=am
theorem Kx {i j:Int} {S:Sto} {Q:D->Sto->Prop}:Ok (av .ge (.int i) (.int j) S) Q=Q (.bl (decide (j<=i))) S:=am
theorem Gr {i j:Int} {S:Sto} {Q:D->Sto->Prop}:Ok (bG .add (.int i) (.int j) S) Q=Q (.int (i+j)) S:=am
theorem Gu {i j:Int} {S:Sto} {Q:D->Sto->Prop}:Ok (bG .sub (.int i) (.int j) S) Q=Q (.int (i - j)) S:=am
theorem Ky {x:XE} {ρ:Rho} {S:Sto} {Q:Bool->Sto->Prop}:Ok (xB x ρ S) Q=Ok (x ρ S) fun d S1=>∃ b,d = .bl b/\Q b S1:=by
 unfold xB
 rw [bA]
 congr 1
 funext d S1
 apply propext
 cases d with
 | bl b=>simp [am]
 | _=>simp [aV]
theorem BK {own k:Nat} {it:XI} {tg:Tg} {c:XA} {ρ:Rho} {S:Sto} {Q:List D->Sto->Prop}:Ok (kT own it tg c k ρ S) Q=Ok (it ρ S) fun nx S1=>c9 tg (ρ++List.replicate own none)=true/\Ok (aX nx tg c (ρ++List.replicate own none) k 0 S1) fun es S2=>es.length<=100000/\Q es S2:=by
 unfold kT
 rw [bA]
 congr 1
 funext nx S1
 rw [cP,aV]
 apply propext
 have e:Ok (bnd (aX nx tg c (ρ++List.replicate own none) k 0 S1) fun es S2=>if es.length<=100000 then some (es,S2) else none) Q=Ok (aX nx tg c (ρ++List.replicate own none) k 0 S1) fun es S2=>es.length<=100000/\Q es S2:=by
  rw [bA]
  congr 1
  funext es S2
  rw [cP,aV,am]
  apply propext
  split
  ·rename_i h;exact ⟨fun z=>⟨h,z⟩,fun z=>z.2⟩
  ·rename_i h;exact ⟨fun z=>z.elim,fun z=>(h z.1).elim⟩
 rw [e]
 split
 ·rename_i h;exact ⟨fun z=>⟨h,z⟩,fun z=>z.2⟩
 ·rename_i h;exact ⟨fun z=>z.elim,fun z=>(h z.1).elim⟩
theorem yQ {k:Nat} {it:XI} {tg:Tg} {c:XA} {ρ:Rho} {S:Sto} {Q:List D->Sto->Prop}:Ok (jc it tg c k ρ S) Q=(c9 tg ρ=true/\Ok (it ρ S) fun nx S1=>Ok (aX nx tg c ρ k 0 S1) Q):=by
 unfold jc
 rw [cP,aV,bA]
 apply propext
 split
 ·rename_i h;exact ⟨fun z=>⟨h,z⟩,fun z=>z.2⟩
 ·rename_i h;exact ⟨fun z=>z.elim,fun z=>(h z.1).elim⟩
theorem BL {x:XA} {ρ:Rho} {S:Sto} {Q:List D->Sto->Prop}:Ok (mM x ρ S) Q=Ok (x ρ S) fun ds S1=>ds.length<=1000/\Q ds S1:=by
 unfold mM
 rw [bA]
 congr 1
 funext ds S1
 rw [cP,aV,am]
 apply propext
 split
 ·rename_i h;exact ⟨fun z=>⟨h,z⟩,fun z=>z.2⟩
 ·rename_i h;exact ⟨fun z=>z.elim,fun z=>(h z.1).elim⟩
theorem BM {ds:List D} {S:Sto} {Q:D->Sto->Prop}:Ok (jT ds S) Q=(ds.length<=1000/\Q (.tup ds) S):=by
 unfold jT
 rw [cP,aV,am]
 apply propext
 split
 ·rename_i h;exact ⟨fun z=>⟨h,z⟩,fun z=>z.2⟩
 ·rename_i h;exact ⟨fun z=>z.elim,fun z=>(h z.1).elim⟩
theorem bZ {α:Type} (l:List α) (g:α->Bool) (S:Sto):mv false (l.map fun t=>D.bl (g t)) S=some (.bl (l.all g),S):=by
 unfold mv
 have h1:(l.map fun t=>D.bl (g t)).all xG=true:=by rw [List.all_map];simp [Function.comp_def,xG]
 have h2:(l.map fun t=>D.bl (g t)).all vn=l.all g:=by rw [List.all_map];rfl
 rw [if_pos ⟨rfl,h1⟩,h2]
theorem fe {p:Nat} {S:Sto} {ts:List Dw.D} {ds:List D} {tg:Tg} {c:XA} {ρ:Rho} {Q:List D->Sto->Prop} (h:TDs p S ts ds) (hl:ts.length<=100000) (g:Dw.D->Bool)
  (step:∀ (i:Nat) t d S',ts[i]?=some t->Sm S S'->TD p S' t d->∃ ρ1,ao tg d ρ=some ρ1/\Ok (c ρ1 S') fun es S1=>es=[.bl (g t)]/\Sm S' S1) (q:∀ S',Sm S S'->Q (ts.map fun t=>.bl (g t)) S') :
  Ok (aX (nxL ds) tg c ρ LF 0 S) fun es S2=>es.length<=100000/\Q es S2:=by
 refine (cQ ts.length (fun i acc S'=>Sm S S'/\acc=(ts.take i).map fun t=>.bl (g t)) (by unfold LF;omega) (fun i acc S' hi ⟨sm,ea⟩=>?_) (fun acc S' ⟨sm,ea⟩=>?_) ⟨Sm.refl S,by simp⟩).mono fun es S' ⟨sm,ea⟩=>?_
 ·obtain ⟨d,e1,td⟩:=h.get (gEG hi)
  obtain ⟨ρ1,e2,es,S1,e3,rfl,sm'⟩:=step i ts[i] d S' (gEG hi) sm (td.keep sm.kp)
  refine ⟨d,ρ1,by show some ds[i]?=_;rw [e1],e2,_,S1,e3,sm.trans sm',?_⟩
  rw [ea,List.take_succ_eq_append_getElem hi,List.map_append];rfl
 ·show some ds[ts.length]?=_
  rw [List.getElem?_eq_none (by rw [h.len];omega)]
 ·rw [List.take_length] at ea
  subst ea
  exact ⟨by rw [List.length_map];exact hl,q S' sm⟩
theorem BN {S:Sto} {n:Nat} {lo:Int} {tg:Tg} {c:XA} {ρ:Rho} {Q:List D->Sto->Prop} (hl:n<=100000) (g:Nat->Bool)
  (step:∀ (i:Nat) S',i < n->Sm S S'->∃ ρ1,ao tg (.int (lo+i)) ρ=some ρ1/\Ok (c ρ1 S') fun es S1=>es=[.bl (g i)]/\Sm S' S1) (q:∀ S',Sm S S'->Q ((List.range n).map fun i=>.bl (g i)) S') :
  Ok (aX (nxR lo n) tg c ρ LF 0 S) fun es S2=>es.length<=100000/\Q es S2:=by
 refine (cQ n (fun i acc S'=>Sm S S'/\acc=(List.range i).map fun t=>.bl (g t)) (by unfold LF;omega) (fun i acc S' hi ⟨sm,ea⟩=>?_) (fun acc S' ⟨sm,ea⟩=>?_) ⟨Sm.refl S,by simp⟩).mono fun es S' ⟨sm,ea⟩=>?_
 ·obtain ⟨ρ1,e2,es,S1,e3,rfl,sm'⟩:=step i S' hi sm
  refine ⟨_,ρ1,by show some (if i < n then some (D.int (lo+i)) else none)=_;rw [if_pos hi],e2,_,S1,e3,sm.trans sm',?_⟩
  rw [ea,List.range_succ,List.map_append];rfl
 ·show some (if n < n then some (D.int (lo+n)) else none)=_
  rw [if_neg (Nat.lt_irrefl n)]
 ·subst ea
  exact ⟨by rw [List.length_map,List.length_range];exact hl,q S' sm⟩
theorem BO {p:Nat} {S:Sto} {ts:List Dw.D} {ds:List D} {tg:Tg} {c:XA} {ρ:Rho} {Q:List D->Sto->Prop} (h:TDs p S ts ds) (hl:ts.length<=100000) (g:Nat->Bool)
  (step:∀ (i:Nat) t d S',ts[i]?=some t->Sm S S'->TD p S' t d->∃ ρ1,ao tg (.tup [.int i,d]) ρ=some ρ1/\Ok (c ρ1 S') fun es S1=>es=[.bl (g i)]/\Sm S' S1) (q:∀ S',Sm S S'->Q ((List.range ts.length).map fun i=>.bl (g i)) S') :
  Ok (aX (p9 ds) tg c ρ LF 0 S) fun es S2=>es.length<=100000/\Q es S2:=by
 refine (cQ ts.length (fun i acc S'=>Sm S S'/\acc=(List.range i).map fun t=>.bl (g t)) (by unfold LF;omega) (fun i acc S' hi ⟨sm,ea⟩=>?_) (fun acc S' ⟨sm,ea⟩=>?_) ⟨Sm.refl S,by simp⟩).mono fun es S' ⟨sm,ea⟩=>?_
 ·obtain ⟨d,e1,td⟩:=h.get (gEG hi)
  obtain ⟨ρ1,e2,es,S1,e3,rfl,sm'⟩:=step i ts[i] d S' (gEG hi) sm (td.keep sm.kp)
  refine ⟨.tup [.int i,d],ρ1,?_,e2,_,S1,e3,sm.trans sm',?_⟩
  ·show enm ds i=_
   unfold enm
   rw [if_pos (by rw [h.len];omega),e1];rfl
  ·rw [ea,List.range_succ,List.map_append];rfl
 ·show enm ds ts.length=_
  unfold enm
  rw [if_pos (by rw [h.len];omega),List.getElem?_eq_none (by rw [h.len];omega)];rfl
 ·subst ea
  exact ⟨by rw [List.length_map,List.length_range];exact hl,q S' sm⟩
theorem sC {S:Sto} {m n:Nat} {tg:Tg} {c:XA} {ρ:Rho} (hm:S[m]?=some (.lst ((List.range n).map fun j=>.int (Int.ofNat j)))) (hn:n<=1000) (f:Nat->List D)
  (step:∀ (i:Nat) S',i < n->Sm S S'->∃ ρ1,ao tg (.int i) ρ=some ρ1/\Ok (c ρ1 S') fun es S1=>es=f i/\Sm S' S1):Ok (aX (nxS m) tg c ρ LF 0 S) fun es S2=>es=(List.range n).flatMap f/\Sm S S2:=by
 refine (cQ n (fun i acc S'=>Sm S S'/\acc=(List.range i).flatMap f) (by unfold LF;omega) (fun i acc S' hi ⟨sm,ea⟩=>?_) (fun acc S' ⟨sm,ea⟩=>?_) ⟨Sm.refl S,by simp⟩).mono fun es S' ⟨sm,ea⟩=>⟨ea,sm⟩
 ·obtain ⟨ρ1,e2,es,S1,e3,rfl,sm'⟩:=step i S' hi sm
  refine ⟨.int i,ρ1,?_,e2,_,S1,e3,sm.trans sm',?_⟩
  ·show (aj S' m).map (fun ds=>ds[i]?)=_
   simp only [aj,sm _ _ hm,Option.map_some,List.getElem?_map,List.getElem?_range hi];rfl
  ·rw [ea,Dw.mL]
 ·show (aj S' m).map (fun ds=>ds[n]?)=_
  simp only [aj,sm _ _ hm,Option.map_some]
  rw [List.getElem?_eq_none (by simp)]
theorem yR {x:XA} {ρ:Rho} {S:Sto} {Q:D->Sto->Prop}:Ok (dF x ρ S) Q=Ok (x ρ S) fun ds S1=>Q (.ref S1.length) (S1++[.lst ds]):=by
 unfold dF
 rw [bA]
 congr 1
 funext ds S1
 rw [am]
theorem Gv {x:XE} {ρ:Rho} {S:Sto} {Q:List D->Sto->Prop} (h:Ok (x ρ S) fun d S1=>∃ i:Nat,d = .int i/\i<=1000/\Q ((List.range i).map fun j=>.int (Int.ofNat j)) S1):Ok (vL x ρ S) Q:=by
 unfold vL
 rw [bA]
 refine h.mono fun d S1 ⟨i,e,hi,q⟩=>?_
 subst e
 dsimp only
 rw [if_pos (by omega),am,Int.toNat_natCast]
 exact q
theorem oT {p:Nat} {S:Sto} {a b:Int}:∀ {fs:List Dw.D} {ds:List D},fs.all (fun e=>Dw.ax e a b)=true->TDs p S fs ds->ds=(Dw.bh fs).map D.int
 | [],ds,_,h=>by rw [h.nil];rfl
 | t::fs,ds,hw,h=>by
  obtain ⟨d,r,rfl,h1,h2⟩:=h.cons
  rw [List.all_cons,bAE] at hw
  obtain ⟨i,rfl,_⟩:=Dw.ay hw.1
  rw [h1.int,oT hw.2 h2]
  rfl
theorem qv (is:List Int):(is.map D.int).all cm=true:=by rw [List.all_map];simp [Function.comp_def,cm]
theorem yS (is:List Int) (i:Int) (S:Sto):sf (.tup (is.map D.int)) [.int i] S=some (.int (is.count i:Nat),S):=by
 have e:((is.map D.int).countP fun z=>eqF z (.int i))=is.count i:=by
  rw [List.countP_map]
  unfold List.count
  congr 1
 simp only [sf]
 rw [if_pos ⟨rfl,qv is⟩,e]
theorem ud (neg:Bool) (is:List Int) (i:Int) (S:Sto):inS neg (.int i) (.tup (is.map D.int)) S=some (.bl (neg != decide (i ∈ is)),S):=by
 have e:inF (.int i) (is.map D.int)=decide (i ∈ is):=by
  unfold inF
  rw [List.any_map,Bool.eq_iff_iff,List.any_eq_true]
  simp only [Function.comp_def,eqF,beq_iff_eq,decide_eq_true_eq]
  exact ⟨fun ⟨x,hx,e⟩=>e ▸ hx,fun h=>⟨i,h,rfl⟩⟩
 simp only [inS,ak]
 rw [if_pos ⟨rfl,qv is⟩,e]
theorem BP (i j:Int) (S:Sto):av .eq (.int i) (.int j) S=some (.bl (decide (i=j)),S):=by
 simp only [av,eqS]
 have:eqD 60 S (.int i) (.int j)=some (i == j):=rfl
 rw [this]
 rfl
theorem oU (i j:Int) (S:Sto):av .ne (.int i) (.int j) S=some (.bl (!decide (i=j)),S):=by
 simp only [av,neS]
 have:eqD 60 S (.int i) (.int j)=some (i == j):=rfl
 rw [this]
 rfl
theorem Gw {i j:Int} {S:Sto} {Q:D->Sto->Prop}:Ok (av .eq (.int i) (.int j) S) Q=Q (.bl (decide (i=j))) S:=by rw [BP,am]
theorem Gx {i j:Int} {S:Sto} {Q:D->Sto->Prop}:Ok (av .ne (.int i) (.int j) S) Q=Q (.bl (!decide (i=j))) S:=by rw [oU,am]
noncomputable def Gy:Dw.D->Bool
 | .non=>true
 | _=>false
theorem Gz {p:Nat} {S:Sto} {t:Dw.D} {d:D} (h:TD p S t d):pV d=Gy t:=by
 cases t with
 | non=>rw [h.non];rfl
 | bl _=>rw [h.bl];rfl
 | int _=>rw [h.int];rfl
 | str _=>rw [h.str];rfl
 | tup _=>obtain ⟨_,rfl,_⟩:=h.tup;rfl
 | lst _=>rw [TD] at h;obtain ⟨n,ds,rfl,_⟩:=h;rfl
 | dic _ _=>rw [TD] at h;obtain ⟨n,ds,rfl,_⟩:=h;rfl
theorem Kz {p:Nat} {S:Sto} {t:Dw.D} {d:D} (h:TD p S t d):av .is d .non S=some (.bl (Gy t),S):=by
 rw [<-Gz h]
 simp only [av]
 have:isB false d .non S=some (.bl (false != pV d),S):=by cases d <;> rfl
 rw [this]
 cases pV d <;> rfl
theorem BQ {i:Nat} {d:D} {ρ:Rho}:ao (.name i) d ρ=if i < ρ.length then some (ρ.set i (some d)) else none:=by simp only [ao]
theorem oV {ts:List Tg} {ds:List D} {ρ:Rho}:ao (.tup ts) (.tup ds) ρ=aF ts ds ρ:=by simp only [ao]
theorem ka {ρ:Rho}:aF [] [] ρ=some ρ:=by simp only [aF]
theorem bI {i:Nat} {ts:List Tg} {d:D} {ds:List D} {ρ:Rho}:aF (.name i::ts) (d::ds) ρ=if i < ρ.length then aF ts ds (ρ.set i (some d)) else none:=by
 simp only [aF,ao]
 split
 ·rename_i ρ' h
  split at h
  ·rename_i hc;cases h;rw [if_pos hc]
  ·cases h
 ·rename_i h
  split at h
  ·cases h
  ·rename_i hc;rw [if_neg hc]
theorem ce {i j:Nat} {a b:D} {ρ:Rho} (h1:i < ρ.length) (h2:j < ρ.length):ao (.tup [.name i,.name j]) (.tup [a,b]) ρ=some ((ρ.set i (some a)).set j (some b)):=by
 rw [oV,bI,if_pos h1,bI,if_pos (by rw [List.length_set];exact h2),ka]
theorem au {S:Sto} {a:Nat} {es:List D} (h:S[a]?=some (.lst es)):aj S a=some es:=by simp only [aj,h]
theorem ue {S:Sto} {a b n:Nat} {es:List D} (h1:S[a]?=some (.lst es)) (h2:S[b]?=some (.lst [])) (hn:a ≠ b):eqD (n+1) S (.ref a) (.ref b)=some es.isEmpty:=by
 show (match aj S a,aj S b with | some xs,some ys=>if a=b then some true else if xs.length=ys.length then eqL (eqD n S) xs ys else some false | _,_=>none)=_
 rw [au h1,au h2]
 show (if a=b then some true else if es.length=([]:List D).length then eqL (eqD n S) es [] else some false)=_
 rw [if_neg hn]
 cases es with
 | nil=>simp [eqL]
 | cons x xs=>simp
theorem ne_nil {S:Sto} {a b:Nat} {es:List D} (h1:S[a]?=some (.lst es)) (h2:S[b]?=some (.lst [])) (hn:a ≠ b):av .ne (.ref a) (.ref b) S=some (.bl (!es.isEmpty),S):=by
 simp only [av,neS,ue h1 h2 hn,Option.map_some]
theorem GA {S:Sto} {a b:Nat} {es:List D} (h1:S[a]?=some (.lst es)) (h2:S[b]?=some (.lst [])) (hn:a ≠ b):av .eq (.ref a) (.ref b) S=some (.bl es.isEmpty,S):=by
 simp only [av,eqS,ue h1 h2 hn,Option.map_some]
theorem BR {S:Sto} {es:List D}:av .ne (.ref (List.length S)) (.ref (List.length (S++[Ob.lst es]))) (S++[Ob.lst es]++[Ob.lst []])=some (.bl (!es.isEmpty),S++[Ob.lst es]++[Ob.lst []]):=
 ne_nil (by rw [List.append_assoc,List.getElem?_append_right (Nat.le_refl _),Nat.sub_self];rfl) (by rw [List.getElem?_append_right (Nat.le_refl _),Nat.sub_self];rfl) (by simp)
theorem iu (ds:List D) (k:Nat) (hk:k<=ds.length):gC ds none (some (k:Int))=ds.take k:=by
 unfold gC
 rw [Dw.rA _ _ (by omega),Int.toNat_natCast,Nat.min_eq_left hk]
 rfl
theorem jq {p:Nat} {S:Sto} {ts:List Dw.D} {ds:List D} (h:TDs p S ts ds):ad bx (.tup ds) S=some (.int ts.length,S):=by
 simp only [ad,ak,bx,h.len]
theorem bO {p:Nat} {S:Sto} {ts:List Dw.D} {ds:List D} {i:Nat} {t:Dw.D} {Q:D->Sto->Prop} (h:TDs p S ts ds) (e:ts[i]?=some t) (q:∀ d,TD p S t d->Q d S):Ok (ixS (.tup ds) (.int i) S) Q:=by
 obtain ⟨d,e1,td⟩:=h.get e
 have hi:=(List.getElem?_eq_some_iff.mp e1).1
 have ea:atI ds (i:Int)=some d:=by
  unfold atI ixN
  rw [if_pos (by omega),if_pos (by omega),Int.toNat_natCast]
  exact e1
 simp only [ixS,ak,ea,Option.map_some]
 rw [am]
 exact q d td
end Ev
namespace Ev
open PySem PySem.Spec PyProof.Rows L2
section
variable {S S' S1 S2:Sto} {p:Nat} {Q:D->Sto->Prop} {ρ:Rho}
theorem GC {i j:Int}:Ok (bG .mod (.int i) (.int j) S) Q=(0 < j/\Q (.int (i % j)) S):=by
 simp only [bG,Fq,cP,am,aV]
 apply propext
 split
 ·rename_i h;exact ⟨fun z=>⟨h,z⟩,fun z=>z.2⟩
 ·rename_i h;exact ⟨fun z=>z.elim,fun z=>(h z.1).elim⟩
theorem BS {i j:Int}:Ok (bG .fdiv (.int i) (.int j) S) Q=((0 < j/\j < 1073741824)/\Q (.int (i / j)) S):=by
 simp only [bG,xz,cP,am,aV]
 apply propext
 split
 ·rename_i h;exact ⟨fun z=>⟨h,z⟩,fun z=>z.2⟩
 ·rename_i h;exact ⟨fun z=>z.elim,fun z=>(h z.1).elim⟩
theorem GD {i j:Int}:Ok (bG .mul (.int i) (.int j) S) Q=(iw i j=true/\Q (.int (i * j)) S):=by
 simp only [bG,vh,cP,am,aV]
 apply propext
 split
 ·rename_i h;exact ⟨fun z=>⟨h,z⟩,fun z=>z.2⟩
 ·rename_i h;exact ⟨fun z=>z.elim,fun z=>(h z.1).elim⟩
theorem GF {i j:Int}:Ok (bG .pow (.int i) (.int j) S) Q=((0<=j/\j<=1000000/\i.natAbs < 2 ^ 64)/\Q (.int (i ^ j.toNat)) S):=by
 simp only [bG,Fr,cP,am,aV]
 apply propext
 split
 ·rename_i h;exact ⟨fun z=>⟨h,z⟩,fun z=>z.2⟩
 ·rename_i h;exact ⟨fun z=>z.elim,fun z=>(h z.1).elim⟩
theorem uf {i j:Int} (h1:-(2 ^ 64) < j) (h2:j < 2 ^ 64):iw i j=true:=by simp only [iw,Bool.or_eq_true,bAE,decide_eq_true_eq];exact .inr ⟨h1,h2⟩
theorem kb {i j:Int} (h1:-(2 ^ 64) < i) (h2:i < 2 ^ 64):iw i j=true:=by simp only [iw,Bool.or_eq_true,bAE,decide_eq_true_eq];exact .inl ⟨h1,h2⟩
noncomputable def Pot (p:Nat) (S:Sto):Prop:=∃ n:Int,S[p]?=some (.lst [.int n])
structure Dr (p:Nat) (S S':Sto):Prop where
 kp:Kp p S S'
 pot:Pot p S'
theorem Dr.refl (h:Pot p S):Dr p S S:=⟨Kp.refl p S,h⟩
theorem Dr.trans (a:Dr p S S1) (b:Dr p S1 S2):Dr p S S2:=⟨a.kp.trans b.kp,b.pot⟩
theorem Dr.sm (h:Pot p S) (s:Sm S S'):Dr p S S':=⟨s.kp,let ⟨n,e⟩:=h;⟨n,s _ _ e⟩⟩
theorem Dr.thenSm (a:Dr p S S1) (s:Sm S1 S2):Dr p S S2:=a.trans (Dr.sm a.pot s)
theorem Pot.lt (h:Pot p S):p < S.length:=let ⟨_,e⟩:=h;(List.getElem?_eq_some_iff.mp e).1
theorem GG {o:Ob}:Kp p S (S.set p o):=fun i u n e=>by rw [List.getElem?_set_ne (Ne.symm n)];exact e
theorem cS {o:Ob} (h:p < S.length):(S.set p o)[p]?=some o:=by rw [List.getElem?_set_self h]
theorem lZ {n:Nat} {lo:Int} {tg:Tg} {b:XS} {Q:Fl->Rho->Sto->Prop} (hl:n<=100000) (I:Nat->Rho->Sto->Prop)
  (step:∀ (i:Nat) ρ S,i < n->I i ρ S->∃ ρ1,ao tg (.int (lo+i)) ρ=some ρ1/\OkS (b ρ1 S) fun fl ρ2 S2=>match fl with | .nx=>I (i+1) ρ2 S2 | .ct=>I (i+1) ρ2 S2 | .bk=>Q .nx ρ2 S2 | .rt d=>Q (.rt d) ρ2 S2)
  (q:∀ ρ S',I n ρ S'->Q .nx ρ S') (h0:I 0 ρ S):OkS (dX (nxR lo n) tg b LF 0 ρ S) Q:=by
 refine iQ n I (by unfold LF;omega) (fun i ρ S' hi iv=>?_) (fun ρ S' iv=>⟨?_,q ρ S' iv⟩) h0
 ·obtain ⟨ρ1,e2,z⟩:=step i ρ S' hi iv
  exact ⟨_,ρ1,by show some (if i < n then some (D.int (lo+i)) else none)=_;rw [if_pos hi],e2,z⟩
 ·show some (if n < n then some (D.int (lo+n)) else none)=_
  rw [if_neg (Nat.lt_irrefl n)]
theorem oW {n:Nat} {lo:Int} {tg:Tg} {c:XA} {Q:List D->Sto->Prop} (hl:n<=100000) (I:Nat->List D->Sto->Prop)
  (step:∀ (i:Nat) acc S',i < n->I i acc S'->∃ ρ1,ao tg (.int (lo+i)) ρ=some ρ1/\Ok (c ρ1 S') fun es S1=>I (i+1) (acc++es) S1) (q:∀ es S',I n es S'->es.length<=100000/\Q es S') (h0:I 0 [] S) :
  Ok (aX (nxR lo n) tg c ρ LF 0 S) fun es S2=>es.length<=100000/\Q es S2:=by
 refine (cQ n I (by unfold LF;omega) (fun i acc S' hi iv=>?_) (fun acc S' iv=>?_) h0).mono q
 ·obtain ⟨ρ1,e2,z⟩:=step i acc S' hi iv
  exact ⟨_,ρ1,by show some (if i < n then some (D.int (lo+i)) else none)=_;rw [if_pos hi],e2,z⟩
 ·show some (if n < n then some (D.int (lo+n)) else none)=_
  rw [if_neg (Nat.lt_irrefl n)]
theorem GH {x:XA} {y:XE}:Ok (rG x y ρ S) Q=Ok (x ρ S) fun ds S1=>Ok (y ρ S1) fun i S2=>∃ k,i = .int k/\∃ d,atI ds k=some d/\Q d S2:=by
 unfold rG
 rw [bA]
 congr 1
 funext ds S1
 rw [bA]
 congr 1
 funext i S2
 apply propext
 cases i with
 | int k=>simp [Gh]
 | _=>simp [aV]
theorem GI {ds:List D} {i:Int} (h0:0<=i) (h1:i < ds.length):∃ d,atI ds i=some d/\ds[i.toNat]?=some d:=by
 have hi:i.toNat < ds.length:=by omega
 refine ⟨ds[i.toNat],?_,gEG hi⟩
 unfold atI ixN
 rw [if_pos h0,if_pos (by omega)]
 exact gEG hi
theorem oX {nx:Nxt} {tg:Tg} {c:XA} {Q:List D->Sto->Prop} (n:Nat) (el:Nat->D) (I:Nat->List D->Sto->Prop) (hnx:∀ i acc S',i<=n->I i acc S'->nx i S'=some (if i < n then some (el i) else none)) (hl:n<=100000)
  (step:∀ (i:Nat) acc S',i < n->I i acc S'->∃ ρ1,ao tg (el i) ρ=some ρ1/\Ok (c ρ1 S') fun es S1=>I (i+1) (acc++es) S1) (q:∀ es S',I n es S'->es.length<=100000/\Q es S') (h0:I 0 [] S) :
  Ok (aX nx tg c ρ LF 0 S) fun es S2=>es.length<=100000/\Q es S2:=by
 refine (cQ n I (by unfold LF;omega) (fun i acc S' hi iv=>?_) (fun acc S' iv=>?_) h0).mono q
 ·obtain ⟨ρ1,e2,z⟩:=step i acc S' hi iv
  exact ⟨_,ρ1,by rw [hnx i acc S' (by omega) iv,if_pos hi],e2,z⟩
 ·rw [hnx n acc S' (Nat.le_refl _) iv,if_neg (Nat.lt_irrefl n)]
theorem oY {m i:Nat} {ds:List D} (h:S[m]?=some (.lst ds)) (el:Nat->D) (he:∀ i d,ds[i]?=some d->el i=d):nxS m i S=some (if i < ds.length then some (el i) else none):=by
 show (aj S m).map (fun ds=>ds[i]?)=_
 rw [au h,Option.map_some]
 split
 ·rename_i hi;rw [gEG hi,he i _ (gEG hi)]
 ·rename_i hi;rw [List.getElem?_eq_none (by omega)]
structure RowsS (p:Nat) (S:Sto) (rs:List D) (M:List (List Int)):Prop where
 len:rs.length=M.length
 row:∀ (i:Nat) r,M[i]?=some r->∃ a,rs[i]?=some (.ref a)/\a ≠ p/\S[a]?=some (.lst (r.map D.int))
theorem RowsS.keep {rs:List D} {M:List (List Int)} (h:RowsS p S rs M) (k:Kp p S S'):RowsS p S' rs M:=⟨h.len,fun i r hr=>let ⟨a,e,n,z⟩:=h.row i r hr;⟨a,e,n,k _ _ n z⟩⟩
theorem RowsS.nil:RowsS p S [] []:=⟨rfl,fun i r h=>by simp at h⟩
theorem RowsS.snoc {rs:List D} {M:List (List Int)} {a:Nat} {r:List Int} (h:RowsS p S rs M) (n:a ≠ p) (z:S[a]?=some (.lst (r.map D.int))):RowsS p S (rs++[.ref a]) (M++[r]):=by
 refine ⟨by simp [h.len],fun i r' hr=>?_⟩
 by_cases hi:i < M.length
 ·rw [List.getElem?_append_left hi] at hr
  obtain ⟨b,e,nb,zb⟩:=h.row i r' hr
  exact ⟨b,by rw [List.getElem?_append_left (by rw [h.len];exact hi)];exact e,nb,zb⟩
 ·rw [List.getElem?_append_right (by omega)] at hr
  have hz:i - M.length=0:=by
   have:=(List.getElem?_eq_some_iff.mp hr).1
   simp at this;omega
  rw [hz] at hr
  cases hr
  exact ⟨a,by rw [List.getElem?_append_right (by rw [h.len];omega),h.len,hz];rfl,n,z⟩
theorem aD {o:Ob}:(S++[o])[S.length]?=some o:=by rw [List.getElem?_append_right (Nat.le_refl _),Nat.sub_self];rfl
theorem Kp.setNew {f:Nat} {o:Ob} (h:Kp p S S') (hf:S.length<=f):Kp p S (S'.set f o):=fun i u n e=>by
 have hi:=(List.getElem?_eq_some_iff.mp e).1
 rw [List.getElem?_set_ne (by omega)]
 exact h i u n e
theorem Pot.setNe {f:Nat} {o:Ob} (h:Pot p S) (hf:f ≠ p):Pot p (S.set f o):=by
 obtain ⟨n,e⟩:=h
 exact ⟨n,by rw [List.getElem?_set_ne hf];exact e⟩
noncomputable def ac (q:Int × Int):D:=.tup [.int q.1,.int q.2]
theorem qw:∀ (es:List (Int × Int)),TDs p S (es.map Dw.cX) (es.map ac)
 | []=>dC
 | e::es=>aN (dM (aN ib (aN ib dC))) (qw es)
theorem l3 {f:Nat} {ds:List D} {e:D} (h:S[f]?=some (.lst ds)) (hl:ds.length < 100000):Ok (se (.ref f) [e] S) Q=Q .non (S.set f (.lst (ds++[e]))):=by
 simp only [se,chg,h]
 rw [if_pos hl]
 exact am
theorem cq {f:Nat} {ds:List D} (h:S[f]?=some (.lst ds)):dW (.ref f) S=true:=by simp only [dW,au h];rfl
theorem oZ {f:Nat} {ds:List D} {e:D} (h:S[f]?=some (.lst (ds++[e]))):ixS (.ref f) (.int (-1)) S=some (e,S):=by
 have:atI (ds++[e]) (-1:Int)=some e:=by
  unfold atI ixN
  rw [if_neg (by decide),if_pos (by rw [List.length_append,List.length_singleton];omega)]
  show (ds++[e])[((-1:Int)+((ds++[e]).length:Int)).toNat]?=some e
  have:((-1:Int)+((ds++[e]).length:Int)).toNat=ds.length:=by rw [List.length_append,List.length_singleton];omega
  rw [this,List.getElem?_append_right (Nat.le_refl _),Nat.sub_self];rfl
 simp only [ixS,ak,au h,Option.map_some,this]
theorem wU {ds:List D} {i:Nat} {d:D} (h:ds[i]?=some d):ixS (.tup ds) (.int i) S=some (d,S):=by
 have hi:=(List.getElem?_eq_some_iff.mp h).1
 have ea:atI ds (i:Int)=some d:=by
  unfold atI ixN
  rw [if_pos (by omega),if_pos (by omega),Int.toNat_natCast]
  exact h
 simp only [ixS,ak,ea,Option.map_some]
theorem tq {ds:List D} {i:Nat} {d:D} (h:ds[i]?=some d):atI ds (i:Int)=some d:=by
 have hi:=(List.getElem?_eq_some_iff.mp h).1
 unfold atI ixN
 rw [if_pos (by omega),if_pos (by omega),Int.toNat_natCast]
 exact h
theorem ug {ds:List D}:av .eq (.tup ds) (.tup []) S=some (.bl ds.isEmpty,S):=by
 simp only [av,eqS]
 have:eqD 60 S (.tup ds) (.tup [])=some ds.isEmpty:=by
  cases ds <;> rfl
 rw [this];rfl
theorem uh {ds:List D}:av .ne (.tup ds) (.tup []) S=some (.bl (!ds.isEmpty),S):=by
 simp only [av,neS]
 have:eqD 60 S (.tup ds) (.tup [])=some ds.isEmpty:=by
  cases ds <;> rfl
 rw [this];rfl
theorem GJ {xs ys:List D}:Ok (bG .add (.tup xs) (.tup ys) S) Q=(xs.length+ys.length<=1000/\Q (.tup (xs++ys)) S):=by
 simp only [bG,jU,cP,am,aV]
 apply propext
 split
 ·rename_i h;exact ⟨fun z=>⟨h,z⟩,fun z=>z.2⟩
 ·rename_i h;exact ⟨fun z=>z.elim,fun z=>(h z.1).elim⟩
end
end Ev
namespace Ev
open PySem PySem.Spec PyProof.Rows L2
noncomputable abbrev WP (α:Type):=Rho->Sto->(α->Sto->Prop)->Prop
noncomputable def Sd {α:Type} (w:WP α) (x:Rho->Sto->Option (α × Sto)):Prop:=∀ ρ S Q,w ρ S Q->Ok (x ρ S) Q
theorem aR {α β:Type} {x:Option (α × Sto)} {f:α->Sto->Option (β × Sto)} {Q:β->Sto->Prop} (h:Ok x fun a S=>Ok (f a S) Q):Ok (bnd x f) Q:=bA ▸ h
theorem bv {α:Type} {a:α} {S:Sto} {Q:α->Sto->Prop} (h:Q a S):Ok (some (a,S)) Q:=⟨_,_,rfl,h⟩
noncomputable def wIf (b:Bool) (A B:Prop):Prop:=match b with
 | true=>A
 | false=>B
noncomputable def wBl (d:D) (Q:Bool->Prop):Prop:=match d with
 | .bl b=>Q b
 | .non=>False | .int _=>False | .str _=>False | .tup _=>False | .ref _=>False
noncomputable def cU (d:D) (Q:Int->Prop):Prop:=match d with
 | .int i=>Q i
 | .non=>False | .bl _=>False | .str _=>False | .tup _=>False | .ref _=>False
theorem l5 {d:D} {Q:Bool->Prop} (h:wBl d Q):∃ b,d = .bl b/\Q b:=by cases d <;> first | exact h.elim | exact ⟨_,rfl,h⟩
theorem ci {d:D} {Q:Int->Prop} (h:cU d Q):∃ b,d = .int b/\Q b:=by cases d <;> first | exact h.elim | exact ⟨_,rfl,h⟩
noncomputable def Me (o:Option D) (Q:D->Prop):Prop:=match o with
 | some d=>Q d
 | none=>False
noncomputable def sD:Rho->Nat->(D->Prop)->Prop
 | [],_,_=>False
 | o::_,0,Q=>Me o Q
 | _::ρ,i+1,Q=>sD ρ i Q
theorem ui:∀ {ρ:Rho} {i:Nat} {Q:D->Prop},sD ρ i Q->∃ d,ρ[i]?=some (some d)/\Q d
 | [],_,_,h=>h.elim
 | some d::_,0,_,h=>⟨d,rfl,h⟩
 | none::_,0,_,h=>h.elim
 | o::ρ,i+1,_,h=>by rw [List.getElem?_cons_succ];exact ui (ρ:=ρ) h
noncomputable def KA (i:Nat):WP D:=fun ρ S Q=>sD ρ i fun d=>Q d S
theorem KB {i:Nat}:Sd (KA i) (vf i):=fun ρ S Q h=>by
 rw [Gq]
 exact ui h
noncomputable def wC (d:D):WP D:=fun _ S Q=>Q d S
theorem s_c {d:D}:Sd (wC d) (xC d):=fun _ _ _ h=>bv h
noncomputable def BT (g:D->D->Sto->(D->Sto->Prop)->Prop) (x y:WP D):WP D:=fun ρ S Q=>x ρ S fun a S1=>y ρ S1 fun b S2=>g a b S2 Q
theorem yT {g:D->D->Sto->(D->Sto->Prop)->Prop} {f:D->D->Sto->Option (D × Sto)} {w v:WP D} {x y:XE} (hw:Sd w x) (hv:Sd v y) (hg:∀ {a b S Q},g a b S Q->Ok (f a b S) Q):Sd (BT g w v) (pO f x y):=
 fun _ _ _ h=>aR ((hw _ _ _ h).mono fun _ _ h=>aR ((hv _ _ _ h).mono fun _ _ h=>hg h))
noncomputable def wUn {α β:Type} (g:α->Sto->(β->Sto->Prop)->Prop) (x:WP α):WP β:=fun ρ S Q=>x ρ S fun a S1=>g a S1 Q
theorem BU {α β:Type} {g:α->Sto->(β->Sto->Prop)->Prop} {f:α->Sto->Option (β × Sto)} {w:WP α} {x:Rho->Sto->Option (α × Sto)} (hw:Sd w x) (hg:∀ {a S Q},g a S Q->Ok (f a S) Q):Sd (wUn g w) (fun ρ S=>bnd (x ρ S) f):=
 fun _ _ _ h=>aR ((hw _ _ _ h).mono fun _ _ h=>hg h)
noncomputable def wOk {α β:Type} (f:α->Sto->Option (β × Sto)) (a:α) (S:Sto) (Q:β->Sto->Prop):Prop:=Ok (f a S) Q
noncomputable def wII:BOp->Int->Int->Sto->(D->Sto->Prop)->Prop
 | .add,i,j,S,Q=>Q (.int (i+j)) S
 | .sub,i,j,S,Q=>Q (.int (i - j)) S
 | .mul,i,j,S,Q=>iw i j=true/\Q (.int (i * j)) S
 | .mod,i,j,S,Q=>0 < j/\Q (.int (i % j)) S
 | .fdiv,i,j,S,Q=>(0 < j/\j < 1073741824)/\Q (.int (i / j)) S
 | .pow,i,j,S,Q=>(0<=j/\j<=1000000/\i.natAbs < 2 ^ 64)/\Q (.int (i ^ j.toNat)) S
theorem GK {o:BOp} {i j:Int} {S:Sto} {Q:D->Sto->Prop} (h:wII o i j S Q):Ok (bG o (.int i) (.int j) S) Q:=by
 cases o with
 | add=>rw [Gr];exact h
 | sub=>rw [Gu];exact h
 | mul=>rw [GD];exact h
 | mod=>rw [GC];exact h
 | fdiv=>rw [BS];exact h
 | pow=>rw [GF];exact h
noncomputable def wTT:BOp->List D->List D->Sto->(D->Sto->Prop)->Prop
 | .add,xs,ys,S,Q=>xs.length+ys.length<=1000/\Q (.tup (xs++ys)) S
 | .sub,_,_,_,_=>False
 | .mul,_,_,_,_=>False
 | .mod,_,_,_,_=>False
 | .fdiv,_,_,_,_=>False
 | .pow,_,_,_,_=>False
theorem GL {o:BOp} {i j:List D} {S:Sto} {Q:D->Sto->Prop} (h:wTT o i j S Q):Ok (bG o (.tup i) (.tup j) S) Q:=by
 cases o with
 | add=>rw [GJ];exact h
 | _=>exact h.elim
noncomputable def yU (o:BOp) (i:Int) (y:D) (S:Sto) (Q:D->Sto->Prop):Prop:=match y with
 | .int j=>wII o i j S Q
 | .non=>False | .bl _=>False | .str _=>False | .ref _=>False
 | .tup ys=>Ok (bG o (.int i) (.tup ys) S) Q
noncomputable def uj (o:BOp) (xs:List D) (y:D) (S:Sto) (Q:D->Sto->Prop):Prop:=match y with
 | .tup ys=>wTT o xs ys S Q
 | .non=>False | .bl _=>False | .str _=>False | .ref _=>False
 | .int j=>Ok (bG o (.tup xs) (.int j) S) Q
noncomputable def sE (o:BOp) (x y:D) (S:Sto) (Q:D->Sto->Prop):Prop:=match x with
 | .int i=>yU o i y S Q
 | .tup xs=>uj o xs y S Q
 | .non=>Ok (bG o .non y S) Q
 | .bl b=>Ok (bG o (.bl b) y S) Q
 | .str b=>Ok (bG o (.str b) y S) Q
 | .ref b=>Ok (bG o (.ref b) y S) Q
theorem BV {o:BOp} {x y:D} {S:Sto} {Q:D->Sto->Prop} (h:sE o x y S Q):Ok (bG o x y S) Q:=by
 cases x with
 | int i=>cases y with
  | int j=>exact GK h
  | tup ys=>exact h
  | _=>exact h.elim
 | tup xs=>cases y with
  | int j=>exact h
  | tup ys=>exact GL h
  | _=>exact h.elim
 | _=>exact h
noncomputable def wCI:COp->Int->Int->Sto->(D->Sto->Prop)->Prop
 | .eq,i,j,S,Q=>Q (.bl (decide (i=j))) S
 | .ne,i,j,S,Q=>Q (.bl (!decide (i=j))) S
 | .lt,i,j,S,Q=>Q (.bl (decide (i < j))) S
 | .le,i,j,S,Q=>Q (.bl (decide (i<=j))) S
 | .gt,i,j,S,Q=>Q (.bl (decide (j < i))) S
 | .ge,i,j,S,Q=>Q (.bl (decide (j<=i))) S
 | .is,_,_,_,_=>False
 | .isnot,_,_,_,_=>False
 | .isin,_,_,_,_=>False
 | .notin,_,_,_,_=>False
theorem GM {o:COp} {i j:Int} {S:Sto} {Q:D->Sto->Prop} (h:wCI o i j S Q):Ok (av o (.int i) (.int j) S) Q:=by
 cases o with
 | eq=>rw [Gw];exact h
 | ne=>rw [Gx];exact h
 | lt=>rw [Kv];exact h
 | le=>rw [Ku];exact h
 | gt=>rw [Kw];exact h
 | ge=>rw [Kx];exact h
 | _=>exact h.elim
noncomputable def GN (o:COp) (i:Int) (y:D) (S:Sto) (Q:D->Sto->Prop):Prop:=match y with
 | .int j=>wCI o i j S Q
 | .non=>Ok (av o (.int i) .non S) Q
 | .bl b=>Ok (av o (.int i) (.bl b) S) Q
 | .str b=>Ok (av o (.int i) (.str b) S) Q
 | .ref b=>Ok (av o (.int i) (.ref b) S) Q
 | .tup b=>Ok (av o (.int i) (.tup b) S) Q
noncomputable def qx (o:COp) (xs:List D) (y:D) (S:Sto) (Q:D->Sto->Prop):Prop:=match o with
 | .eq=>match y with
  | .tup ys=>match ys with
   | []=>Q (.bl xs.isEmpty) S
   | y::ys=>Ok (av .eq (.tup xs) (.tup (y::ys)) S) Q
  | .non=>Ok (av .eq (.tup xs) .non S) Q
  | .bl b=>Ok (av .eq (.tup xs) (.bl b) S) Q
  | .str b=>Ok (av .eq (.tup xs) (.str b) S) Q
  | .ref b=>Ok (av .eq (.tup xs) (.ref b) S) Q
  | .int b=>Ok (av .eq (.tup xs) (.int b) S) Q
 | .ne=>match y with
  | .tup ys=>match ys with
   | []=>Q (.bl (!xs.isEmpty)) S
   | y::ys=>Ok (av .ne (.tup xs) (.tup (y::ys)) S) Q
  | .non=>Ok (av .ne (.tup xs) .non S) Q
  | .bl b=>Ok (av .ne (.tup xs) (.bl b) S) Q
  | .str b=>Ok (av .ne (.tup xs) (.str b) S) Q
  | .ref b=>Ok (av .ne (.tup xs) (.ref b) S) Q
  | .int b=>Ok (av .ne (.tup xs) (.int b) S) Q
 | .is=>Ok (av .is (.tup xs) y S) Q
 | .isnot=>Ok (av .isnot (.tup xs) y S) Q
 | .isin=>Ok (av .isin (.tup xs) y S) Q
 | .notin=>Ok (av .notin (.tup xs) y S) Q
 | .lt=>False | .le=>False | .gt=>False | .ge=>False
noncomputable def wCx (o:COp) (x y:D) (S:Sto) (Q:D->Sto->Prop):Prop:=match x with
 | .int i=>GN o i y S Q
 | .tup xs=>qx o xs y S Q
 | .non=>Ok (av o .non y S) Q
 | .bl b=>Ok (av o (.bl b) y S) Q
 | .str b=>Ok (av o (.str b) y S) Q
 | .ref b=>Ok (av o (.ref b) y S) Q
theorem GO {o:COp} {x y:D} {S:Sto} {Q:D->Sto->Prop} (h:wCx o x y S Q):Ok (av o x y S) Q:=by
 cases x with
 | int i=>cases y with
  | int j=>exact GM h
  | _=>exact h
 | tup xs=>cases o with
  | eq=>cases y with
   | tup ys=>cases ys with
    | nil=>rw [ug,am];exact h
    | cons y ys=>exact h
   | _=>exact h
  | ne=>cases y with
   | tup ys=>cases ys with
    | nil=>rw [uh,am];exact h
    | cons y ys=>exact h
   | _=>exact h
  | lt=>exact h.elim
  | le=>exact h.elim
  | gt=>exact h.elim
  | ge=>exact h.elim
  | _=>exact h
 | _=>exact h
noncomputable def wCm (o:COp) (x y:D) (S:Sto) (Q:D->Sto->Prop):Prop:=match o with
 | .is=>Ok (av .is x y S) Q
 | .isnot=>Ok (av .isnot x y S) Q
 | .isin=>Ok (av .isin x y S) Q
 | .notin=>Ok (av .notin x y S) Q
 | .eq=>wCx .eq x y S Q
 | .ne=>wCx .ne x y S Q
 | .lt=>wCx .lt x y S Q
 | .le=>wCx .le x y S Q
 | .gt=>wCx .gt x y S Q
 | .ge=>wCx .ge x y S Q
theorem o0 {o:COp} {x y:D} {S:Sto} {Q:D->Sto->Prop} (h:wCm o x y S Q):Ok (av o x y S) Q:=by
 cases o <;> first | exact GO h | exact h
noncomputable def GP (o p:COp) (x y z:WP D):WP D:=fun ρ S Q=>x ρ S fun a S1=>y ρ S1 fun b S2=>wCm o a b S2 fun r S3=>wBl r fun c=>wIf c (z ρ S3 fun e S4=>wCm p b e S4 Q) (Q (.bl false) S3)
theorem D5 {o p:COp} {w v u:WP D} {x y z:XE} (hw:Sd w x) (hv:Sd v y) (hu:Sd u z):Sd (GP o p w v u) (vI (av o) (av p) x y z):=fun _ _ _ h=>by
 rw [Gp]
 refine (hw _ _ _ h).mono fun a S1 h=>(hv _ _ _ h).mono fun b S2 h=>(o0 h).mono fun r S3 h=>?_
 obtain ⟨c,e,h⟩:=l5 h
 refine ⟨c,e,?_⟩
 cases c with
 | true=>exact (hu _ _ _ h).mono fun e S4 h=>o0 h
 | false=>exact h
noncomputable def KC (x y:WP D):WP D:=fun ρ S Q=>x ρ S fun d S1=>wBl d fun b=>wIf b (y ρ S1 Q) (Q (.bl false) S1)
theorem KD {w v:WP D} {x y:XE} (hw:Sd w x) (hv:Sd v y):Sd (KC w v) (x8 x y):=fun _ _ _ h=>by
 rw [Gn]
 refine (hw _ _ _ h).mono fun a S1 h=>?_
 obtain ⟨c,e,h⟩:=l5 h
 refine ⟨c,e,?_⟩
 cases c with
 | true=>exact hv _ _ _ h
 | false=>exact h
noncomputable def wOr (x y:WP D):WP D:=fun ρ S Q=>x ρ S fun d S1=>wBl d fun b=>wIf b (Q (.bl true) S1) (y ρ S1 Q)
theorem Mf {w v:WP D} {x y:XE} (hw:Sd w x) (hv:Sd v y):Sd (wOr w v) (xOr x y):=fun _ _ _ h=>by
 rw [Kt]
 refine (hw _ _ _ h).mono fun a S1 h=>?_
 obtain ⟨c,e,h⟩:=l5 h
 refine ⟨c,e,?_⟩
 cases c with
 | false=>exact hv _ _ _ h
 | true=>exact h
noncomputable def KF (x:WP D):WP D:=fun ρ S Q=>x ρ S fun d S1=>wBl d fun b=>Q (.bl (!b)) S1
theorem KG {w:WP D} {x:XE} (hw:Sd w x):Sd (KF w) (xUn vH x):=fun _ _ _ h=>aR ((hw _ _ _ h).mono fun a S1 h=>by
 rw [Go];exact l5 h)
noncomputable def KH (x:WP D):WP D:=fun ρ S Q=>x ρ S fun d S1=>cU d fun i=>Q (.int (-i)) S1
theorem KI {w:WP D} {x:XE} (hw:Sd w x):Sd (KH w) (xUn FM x):=fun _ _ _ h=>aR ((hw _ _ _ h).mono fun a S1 h=>by
 obtain ⟨i,rfl,h⟩:=ci h
 exact bv h)
noncomputable def wO:Option (WP D)->WP (Option Int)
 | none=>fun _ S Q=>Q none S
 | some w=>fun ρ S Q=>w ρ S fun d S1=>cU d fun i=>Q (some i) S1
noncomputable def sF (lo hi:Option Int) (d:D) (S:Sto) (Q:D->Sto->Prop):Prop:=match d with
 | .tup ds=>Q (.tup (gC ds lo hi)) S
 | .ref n=>Ok (slS lo hi (.ref n) S) Q
 | .non=>False | .bl _=>False | .str _=>False | .int _=>False
noncomputable def wSl (x:WP D) (lo hi:WP (Option Int)):WP D:=fun ρ S Q=>x ρ S fun d S1=>lo ρ S1 fun l S2=>hi ρ S2 fun h S3=>sF l h d S3 Q
theorem Mg:Sd (wO none) rK:=fun _ _ _ h=>bv h
theorem Mh {w:WP D} {x:XE} (hw:Sd w x):Sd (wO (some w)) (rL x):=fun _ _ _ h=>aR ((hw _ _ _ h).mono fun d S1 h=>by
 obtain ⟨i,rfl,h⟩:=ci h
 exact bv h)
theorem Mi {w:WP D} {l u:WP (Option Int)} {x:XE} {lo hi:XO} (hw:Sd w x) (hl:Sd l lo) (hu:Sd u hi):Sd (wSl w l u) (xSl x lo hi):=fun _ _ _ h=>aR ((hw _ _ _ h).mono fun d S1 h=>aR ((hl _ _ _ h).mono fun a S2 h=>aR ((hu _ _ _ h).mono fun b S3 h=>by
 cases d with
 | tup ds=>exact bv h
 | ref n=>exact h
 | _=>exact h.elim)))
noncomputable def D6 (g:List D->Sto->Option (D × Sto)) (n:Nat) (x:WP (List D)):WP D:=fun ρ S Q=>x ρ S fun ds S1=>ds.length=n/\Ok (g ds S1) Q
theorem GQ {g:List D->Sto->Option (D × Sto)} {n:Nat} {w:WP (List D)} {x:XA} (hw:Sd w x):Sd (D6 g n w) (qf g n x):=fun _ _ _ h=>by
 rw [BJ];exact hw _ _ _ h
noncomputable def jr (x:WP (List D)):WP D:=fun ρ S Q=>x ρ S fun ds S1=>Q (.ref S1.length) (S1++[.lst ds])
theorem gz {w:WP (List D)} {x:XA} (hw:Sd w x):Sd (jr w) (dF x):=fun _ _ _ h=>by rw [yR];exact hw _ _ _ h
noncomputable def ff:Nat->List CE->Prop->Prop
 | _,[],A=>A
 | 0,_::_,_=>False
 | n+1,_::es,A=>ff n es A
theorem iR:∀ {n:Nat} {es:List CE} {A:Prop},ff n es A->es.length<=n/\A
 | n,[],_,h=>⟨Nat.zero_le _,by cases n <;> exact h⟩
 | 0,_::_,_,h=>h.elim
 | n+1,_::es,_,h=>by rw [List.length_cons];exact ⟨Nat.succ_le_succ (iR (es:=es) h).1,(iR (es:=es) h).2⟩
noncomputable def wSh {α:Type} (es:List CE) (x:WP α):WP α:=fun ρ S Q=>ff 60 es (x ρ S Q)
noncomputable def yV (c:D->Sto->Bool) (f:D->List D->Sto->Option (D × Sto)) (x:WP D) (y:WP (List D)):WP D:=fun ρ S Q=>x ρ S fun d S1=>c d S1=true/\y ρ S1 fun as S2=>Ok (f d as S2) Q
theorem uk {c:D->Sto->Bool} {f:D->List D->Sto->Option (D × Sto)} {w:WP D} {v:WP (List D)} {x:XE} {y:XA} (hw:Sd w x) (hv:Sd v y):Sd (yV c f w v) (vF c f x y):=fun _ _ _ h=>aR ((hw _ _ _ h).mono fun d S1 h=>by
 rw [if_pos h.1]
 exact aR (hv _ _ _ h.2))
noncomputable def GR (x:WP D):WP (List D):=fun ρ S Q=>x ρ S fun d S1=>∃ i:Nat,d = .int i/\i<=1000/\Q ((List.range i).map fun j=>.int (Int.ofNat j)) S1
theorem D7 {w:WP D} {x:XE} (hw:Sd w x):Sd (GR w) (vL x):=fun _ _ _ h=>Gv (hw _ _ _ h)
noncomputable def KJ:WP (List D):=fun _ S Q=>Q [] S
theorem KK:Sd KJ AK:=fun _ _ _ h=>bv h
noncomputable def D8 (x:WP D) (y:WP (List D)):WP (List D):=fun ρ S Q=>x ρ S fun a S1=>y ρ S1 fun as S2=>Q (a::as) S2
theorem GS {w:WP D} {v:WP (List D)} {x:XE} {y:XA} (hw:Sd w x) (hv:Sd v y):Sd (D8 w v) (tG x y):=fun _ _ _ h=>aR ((hw _ _ _ h).mono fun d S1 h=>aR ((hv _ _ _ h).mono fun ds S2 h=>bv h))
noncomputable def Mj (o:Option D) (A:Prop):Prop:=match o with
 | none=>A
 | some _=>False
noncomputable def wFr:Rho->Nat->Prop->Prop
 | [],_,_=>False
 | o::_,0,A=>Mj o A
 | _::ρ,i+1,A=>wFr ρ i A
theorem o3:∀ {ρ:Rho} {i:Nat} {A:Prop},wFr ρ i A->ρ[i]?=some none/\A
 | [],_,_,h=>h.elim
 | none::_,0,_,h=>⟨rfl,h⟩
 | some _::_,0,_,h=>h.elim
 | o::ρ,i+1,_,h=>by rw [List.getElem?_cons_succ];exact o3 (ρ:=ρ) h
noncomputable def qy:List Tg->Rho->Prop->Prop
 | [],_,A=>A
 | .name i::ts,ρ,A=>wFr ρ i (qy ts ρ A)
 | .tup us::ts,ρ,A=>c9 (.tup us) ρ=true/\qy ts ρ A
noncomputable def wFt:Tg->Rho->Prop->Prop
 | .name i,ρ,A=>wFr ρ i A
 | .tup ts,ρ,A=>qy ts ρ A
theorem nq {i:Nat} {ρ:Rho} (h:ρ[i]?=some none):c9 (.name i) ρ=true:=by rw [c9,h]
theorem o4:∀ {ts:List Tg} {ρ:Rho} {A:Prop},qy ts ρ A->fH ts ρ=true/\A
 | [],_,_,h=>⟨by rw [fH],h⟩
 | .name i::ts,ρ,_,h=>by
  obtain ⟨e,h⟩:=o3 h
  obtain ⟨e2,h⟩:=o4 h
  exact ⟨by rw [fH,nq e,e2];rfl,h⟩
 | .tup us::ts,ρ,_,h=>by
  obtain ⟨e,h⟩:=h
  obtain ⟨e2,h⟩:=o4 h
  exact ⟨by rw [fH,e,e2];rfl,h⟩
theorem sG {t:Tg} {ρ:Rho} {A:Prop} (h:wFt t ρ A):c9 t ρ=true/\A:=by
 cases t with
 | name i=>exact ⟨nq (o3 h).1,(o3 h).2⟩
 | tup ts=>rw [c9];exact o4 h
noncomputable def qz:List Str->Rho->(Rho->Prop)->Prop
 | [],r,Q=>Q r
 | _::own,r,Q=>qz own (none::r) Q
noncomputable def qA:Rho->Rho->(Rho->Prop)->Prop
 | [],r,Q=>Q r
 | o::ρ,r,Q=>qA ρ r fun r'=>Q (o::r')
theorem ul:∀ {ρ r:Rho} {Q:Rho->Prop},qA ρ r Q->Q (ρ++r)
 | [],_,_,h=>h
 | o::ρ,r,Q,h=>ul (ρ:=ρ) (Q:=fun r'=>Q (o::r')) h
theorem um:∀ {own:List Str} {k:Nat} {Q:Rho->Prop},qz own (List.replicate k none) Q->Q (List.replicate (own.length+k) none)
 | [],k,_,h=>by rw [List.length_nil,Nat.zero_add];exact h
 | _::own,k,Q,h=>by
  have:=um (own:=own) (k:=k+1) h
  rw [List.length_cons,show own.length+1+k=own.length+(k+1) by omega];exact this
noncomputable def D9 (own:List Str) (it:WP Nxt) (tg:Tg) (c:XA) (k:Nat):WP (List D):=fun ρ S Q=>it ρ S fun nx S1=>qz own [] fun r=>qA ρ r fun ρ'=>wFt tg ρ' (Ok (aX nx tg c ρ' k 0 S1) fun es S2=>es.length<=100000/\Q es S2)
theorem yW {own:List Str} {k:Nat} {w:WP Nxt} {it:XI} {tg:Tg} {c:XA} (hw:Sd w it):Sd (D9 own w tg c k) (kT own.length it tg c k):=fun _ _ _ h=>by
 rw [BK]
 exact (hw _ _ _ h).mono fun nx S1 h=>by
  have h:=ul (um (own:=own) (k:=0) h)
  exact sG h
noncomputable def yX (it:WP Nxt) (tg:Tg) (c:XA) (k:Nat):WP (List D):=fun ρ S Q=>wFt tg ρ (it ρ S fun nx S1=>Ok (aX nx tg c ρ k 0 S1) Q)
theorem BW {k:Nat} {w:WP Nxt} {it:XI} {tg:Tg} {c:XA} (hw:Sd w it):Sd (yX w tg c k) (jc it tg c k):=fun _ _ _ h=>by
 rw [yQ]
 exact ⟨(sG h).1,hw _ _ _ (sG h).2⟩
noncomputable def yY (d:D) (S1:Sto) (Q:Nxt->Sto->Prop):Prop:=match d with
 | .tup ds=>Q (nxL ds) S1
 | .ref n=>(aj S1 n).isSome=true/\Q (nxS n) S1
 | .non=>False | .bl _=>False | .str _=>False | .int _=>False
theorem Mk {w:WP D} {x:XE} (hw:Sd w x):Sd (fun ρ S Q=>w ρ S fun d S1=>yY d S1 Q) (xIV x):=fun _ _ _ h=>aR ((hw _ _ _ h).mono fun d S1 h=>by
 cases d with
 | tup ds=>exact bv h
 | ref n=>dsimp only;rw [if_pos h.1];exact bv h.2
 | _=>exact h.elim)
noncomputable def yZ (d:D) (S1:Sto) (Q:Nxt->Sto->Prop):Prop:=match d with
 | .tup ds=>Q (p9 ds) S1
 | .ref n=>(aj S1 n).isSome=true/\Q (xR n) S1
 | .non=>False | .bl _=>False | .str _=>False | .int _=>False
theorem Ml {w:WP D} {x:XE} (hw:Sd w x):Sd (fun ρ S Q=>w ρ S fun d S1=>yZ d S1 Q) (xEV x):=fun _ _ _ h=>aR ((hw _ _ _ h).mono fun d S1 h=>by
 cases d with
 | tup ds=>exact bv h
 | ref n=>dsimp only;rw [if_pos h.1];exact bv h.2
 | _=>exact h.elim)
noncomputable def wOn {α β:Type} (f:α->β) (x:WP α):WP β:=fun ρ S Q=>x ρ S fun a S1=>Q (f a) S1
theorem y3 {α β:Type} {f:α->β} {w:WP α} {x:Rho->Sto->Option (α × Sto)} (hw:Sd w x):Sd (wOn f w) (fun ρ S=>bnd (x ρ S) fun a S1=>some (f a,S1)):=fun _ _ _ h=>aR ((hw _ _ _ h).mono fun d S1 h=>bv h)
noncomputable def wR1 (x:WP D):WP Nxt:=fun ρ S Q=>x ρ S fun d S1=>cU d fun j=>lim j=true/\Q (nxR 0 j.toNat) S1
theorem Mm {w:WP D} {x:XE} (hw:Sd w x):Sd (wR1 w) (xR1 x):=fun _ _ _ h=>aR ((hw _ _ _ h).mono fun d S1 h=>by
 obtain ⟨i,rfl,h⟩:=ci h
 dsimp only;rw [if_pos h.1];exact bv h.2)
noncomputable def wR2 (x y:WP D):WP Nxt:=fun ρ S Q=>x ρ S fun d S1=>y ρ S1 fun e S2=>cU d fun i=>cU e fun j=>(lim i=true/\lim j=true)/\Q (nxR i (j - i).toNat) S2
theorem Mn {w v:WP D} {x y:XE} (hw:Sd w x) (hv:Sd v y):Sd (wR2 w v) (xR2 x y):=fun _ _ _ h=>aR ((hw _ _ _ h).mono fun d S1 h=>aR ((hv _ _ _ h).mono fun e S2 h=>by
 obtain ⟨i,rfl,h'⟩:=ci h
 obtain ⟨j,rfl,h''⟩:=ci h'
 dsimp only;rw [if_pos h''.1];exact bv h''.2))
noncomputable def KL (x y:WP D):WP Nxt:=fun ρ S Q=>x ρ S fun d S1=>y ρ S1 fun e S2=>∃ n k,d = .ref n/\e = .ref k/\((aj S2 n).isSome=true/\(aj S2 k).isSome=true)/\Q (nxZ n k) S2
theorem KM {w v:WP D} {x y:XE} (hw:Sd w x) (hv:Sd v y):Sd (KL w v) (FF x y):=fun _ _ _ h=>aR ((hw _ _ _ h).mono fun d S1 h=>aR ((hv _ _ _ h).mono fun e S2 h=>by
 obtain ⟨n,k,rfl,rfl,h,q⟩:=h
 dsimp only;rw [if_pos h];exact bv q))
noncomputable def aI (d:D) (S:Sto) (Q:Bool->Sto->Prop):Prop:=match d with
 | .bl b=>Q b S
 | .tup ds=>Q (!ds.isEmpty) S
 | .int i=>Q (i != 0) S
 | .non=>Q false S
 | .str y=>Ok (kF (.str y) S) Q
 | .ref y=>Ok (kF (.ref y) S) Q
theorem y4 {d:D} {S:Sto} {Q:Bool->Sto->Prop} (h:aI d S Q):Ok (kF d S) Q:=by cases d <;> first | exact bv h | exact h
noncomputable def wB (x:WP D):WP Bool:=fun ρ S Q=>x ρ S fun d S1=>wBl d fun b=>Q b S1
theorem s_b {w:WP D} {x:XE} (hw:Sd w x):Sd (wB w) (xB x):=fun _ _ _ h=>by
 rw [Ky]
 exact (hw _ _ _ h).mono fun d S1 h=>l5 h
noncomputable def Ea (x y:WP Bool):WP Bool:=fun ρ S Q=>x ρ S fun b S1=>wIf b (y ρ S1 Q) (Q false S1)
noncomputable def KN (x y:WP Bool):WP Bool:=fun ρ S Q=>x ρ S fun b S1=>wIf b (Q true S1) (y ρ S1 Q)
noncomputable def Eb (x:WP Bool):WP Bool:=fun ρ S Q=>x ρ S fun b S1=>Q (!b) S1
theorem GU {w v:WP Bool} {x y:XT} (hw:Sd w x) (hv:Sd v y):Sd (Ea w v) (yc x y):=fun _ _ _ h=>aR ((hw _ _ _ h).mono fun b S1 h=>by
 cases b with
 | true=>exact hv _ _ _ h
 | false=>exact bv h)
theorem KO {w v:WP Bool} {x y:XT} (hw:Sd w x) (hv:Sd v y):Sd (KN w v) (FO x y):=fun _ _ _ h=>aR ((hw _ _ _ h).mono fun b S1 h=>by
 cases b with
 | false=>exact hv _ _ _ h
 | true=>exact bv h)
theorem GV {w:WP Bool} {x:XT} (hw:Sd w x):Sd (Eb w) (yd x):=fun _ _ _ h=>aR ((hw _ _ _ h).mono fun b S1 h=>bv h)
noncomputable def Ec (t:WP Bool) (c:WP (List D)):WP (List D):=fun ρ S Q=>t ρ S fun b S1=>wIf b (c ρ S1 Q) (Q [] S1)
theorem GW {t:WP Bool} {c:WP (List D)} {x:XT} {y:XA} (ht:Sd t x) (hc:Sd c y):Sd (Ec t c) (xZ x y):=fun _ _ _ h=>aR ((ht _ _ _ h).mono fun b S1 h=>by
 cases b with
 | true=>exact hc _ _ _ h
 | false=>exact bv h)
noncomputable def BX (f:Bool->List D->Option (List D)) (ds:List D) (S:Sto) (Q:List D->Sto->Prop):Prop:=∃ es,f false ds=some es/\Q es S
noncomputable def BZ (f:Bool->List D->Option (List D)) (d:D) (S:Sto) (Q:List D->Sto->Prop):Prop:=∃ r es,ak d S=some r/\f r.1 r.2=some es/\Q es S
noncomputable def sH (d:D) (S:Sto) (Q:List D->Sto->Prop):Prop:=Ok ((ak d S).map fun r=>(r.2,S)) Q
theorem KP {f:Bool->List D->Option (List D)} {w:WP (List D)} {x:XA} (hw:Sd w x):Sd (fun ρ S Q=>w ρ S fun ds S1=>BX f ds S1 Q) (vJ f x):=fun _ _ _ h=>aR ((hw _ _ _ h).mono fun ds S1 ⟨es,e,h⟩=>by rw [e];exact bv h)
theorem KQ {f:Bool->List D->Option (List D)} {w:WP D} {x:XE} (hw:Sd w x):Sd (fun ρ S Q=>w ρ S fun ds S1=>BZ f ds S1 Q) (vK f x):=fun _ _ _ h=>aR ((hw _ _ _ h).mono fun ds S1 ⟨r,es,e1,e,h⟩=>by
 rw [e1];dsimp only;rw [e];exact bv h)
noncomputable def wNo {α:Type}:WP α:=fun _ _ _=>False
theorem qB {α:Type} {x:Rho->Sto->Option (α × Sto)}:Sd wNo x:=fun _ _ _ h=>h.elim
noncomputable def aW (b:Bool) (x:WP (List D)) (y:WP D) (ρ:Rho) (S:Sto) (KT:List D->Sto->Prop) (KV:D->Sto->Prop):Prop:=match b with
 | true=>x ρ S KT
 | false=>y ρ S KV
noncomputable def wOf {α:Type} (b:Bool) (x:WP (List D)) (y:WP D) (gt:List D->Sto->(α->Sto->Prop)->Prop) (gv:D->Sto->(α->Sto->Prop)->Prop):WP α:=fun ρ S Q=>aW b x y ρ S (fun ds S1=>gt ds S1 Q) (fun d S1=>gv d S1 Q)
theorem s_of {α:Type} {b:Bool} {w:WP (List D)} {v:WP D} {gt:List D->Sto->(α->Sto->Prop)->Prop} {gv:D->Sto->(α->Sto->Prop)->Prop} {x y:Rho->Sto->Option (α × Sto)} (hw:Sd (fun ρ S Q=>w ρ S fun ds S1=>gt ds S1 Q) x) (hv:Sd (fun ρ S Q=>v ρ S fun d S1=>gv d S1 Q) y):Sd (wOf b w v gt gv) (if b=true then x else y):=by
 cases b with
 | true=>exact hw
 | false=>exact hv
theorem Mo {b:Bool} {w:WP (List D)} {v u:WP D} {x:XA} {y z:XE} (hw:Sd w x) (hu:Sd u z) (hv:Sd v y):Sd (fun ρ S Q=>aW b w u ρ S (fun ds S1=>v ρ S1 fun i S2=>cU i fun k=>∃ d,atI ds k=some d/\Q d S2) (fun d S1=>v ρ S1 fun i S2=>Ok (ixS d i S2) Q)) (if b=true then rG x y else pO ixS z y):=fun ρ S Q h=>by
 cases b with
 | true=>
  show Ok (rG x y ρ S) Q
  rw [GH]
  exact (hw _ _ _ h).mono fun ds S1 h=>(hv _ _ _ h).mono fun i S2 h=>ci h
 | false=>exact aR ((hu _ _ _ h).mono fun ds S1 h=>aR (hv _ _ _ h))
noncomputable def wO2 (t:CE->WP D):Option CE->Option (WP D)
 | none=>none
 | some e=>some (t e)
noncomputable def B0 (t:CE->WP Bool):Option CE->WP (List D)->WP (List D)
 | some c,x=>Ec (t c) x
 | none,x=>x
noncomputable def y6 (x y:D) (S:Sto) (Q:D->Sto->Prop):Prop:=cU x fun i=>cU y fun j=>Q (.int (if j > i then j else i)) S
noncomputable def y7 (x y:D) (S:Sto) (Q:D->Sto->Prop):Prop:=cU x fun i=>cU y fun j=>Q (.int (if j < i then j else i)) S
noncomputable def w2 (g:D->D->Sto->(D->Sto->Prop)->Prop):List D->Sto->(D->Sto->Prop)->Prop
 | [],_,_=>False
 | [_],_,_=>False
 | [x,y],S,Q=>g x y S Q
 | _::_::_::_,_,_=>False
theorem Ed {g:D->D->Sto->(D->Sto->Prop)->Prop} {f:D->D->Sto->Option (D × Sto)} (hg:∀ {a b S Q},g a b S Q->Ok (f a b S) Q):∀ {ds:List D} {S:Sto} {Q:D->Sto->Prop},w2 g ds S Q->Ok (two f ds S) Q
 | [],_,_,h=>h.elim
 | [_],_,_,h=>h.elim
 | [x,y],_,_,h=>hg h
 | _::_::_::_,_,_,h=>h.elim
noncomputable def wCf (i:CI->WP Nxt) (own:List Str) (t:CE->XT) (e:List Cl->XA):List Cl->WP (List D)
 | []=>wNo
 | ⟨tg,it,cond⟩::rest=>D9 own (i it) tg (cnd t cond (e rest)) LF
mutual
noncomputable def wE (C:Calls) (ar:Nat->Nat):Nat->CE->WP D
 | 0,_=>wNo
 | n+1,e=>match e with
  | .non=>wC .non
  | .bl b=>wC (.bl b)
  | .int i=>wC (.int i)
  | .str x=>wC (.str x)
  | .var i=>KA i
  | .con _ v=>wC (.int v)
  | .tup es=>wSh es (wOn D.tup (wA C ar n es))
  | .lst es=>jr (wSh es (wA C ar n es))
  | .bin o a b=>BT (sE o) (wE C ar n a) (wE C ar n b)
  | .neg a=>KH (wE C ar n a)
  | .cmp o a b=>BT (wCm o) (wE C ar n a) (wE C ar n b)
  | .chn o p a b c=>GP o p (wE C ar n a) (wE C ar n b) (wE C ar n c)
  | .and a b=>KC (wE C ar n a) (wE C ar n b)
  | .or a b=>wOr (wE C ar n a) (wE C ar n b)
  | .not a=>KF (wE C ar n a)
  | .ix a b=>fun ρ S Q=>aW (ai a) (wTm C ar n a) (wE C ar n a) ρ S (fun ds S1=>wE C ar n b ρ S1 fun i S2=>cU i fun k=>∃ d,atI ds k=some d/\Q d S2) (fun d S1=>wE C ar n b ρ S1 fun i S2=>Ok (ixS d i S2) Q)
  | .sl a lo hi=>wSl (wE C ar n a) (wO (wO2 (wE C ar n) lo)) (wO (wO2 (wE C ar n) hi))
  | .call f es=>D6 (C f) (ar f) (wA C ar n es)
  | .inst t a=>wUn (wOk (kI t)) (wE C ar n a)
  | .len a=>wOf (ai a) (wTm C ar n a) (wE C ar n a) (wOk (bx false)) (wOk (ad bx))
  | .all a=>wOf (ai a) (wTm C ar n a) (wE C ar n a) (wOk (mv false)) (wOk (ad mv))
  | .tupOf a=>wOf (ai a) (wTm C ar n a) (wE C ar n a) (wOk (b7 false)) (wOk (ad b7))
  | .listOf a=>jr (wOf (ai a) (wTm C ar n a) (wE C ar n a) (fun ds S Q=>Q ds S) sH)
  | .listR a=>jr (GR (wE C ar n a))
  | .srt a=>jr (wOf (ai a) (wTm C ar n a) (wE C ar n a) (BX cD) (BZ cD))
  | .mxL a=>wOf (ai a) (wTm C ar n a) (wE C ar n a) (wOk (jV false)) (wOk (ad jV))
  | .mxD a c=>wOf (ai a) (wTm C ar n a) (wE C ar n a) (wOk (gH c false)) (wOk (ad (gH c)))
  | .mx a b=>wUn (w2 y6) (wA C ar n [a,b])
  | .mn a b=>wUn (w2 y7) (wA C ar n [a,b])
  | .comp own elt cls=>jr (wCf (wI C ar n) own (evT C ar n) (gD C ar n elt) cls)
  | .app o a=>yV dW se (wE C ar n o) (wA C ar n [a])
  | .ext o a=>yV dW sg (wE C ar n o) (wA C ar n [a])
  | .popAt o a=>yV dW eN (wE C ar n o) (wA C ar n [a])
  | .cnt o a=>yV (fun d _=>isTup d) sf (wE C ar n o) (wA C ar n [a])
noncomputable def wA (C:Calls) (ar:Nat->Nat):Nat->List CE->WP (List D)
 | 0,_=>wNo
 | n+1,es=>match es with
  | []=>KJ
  | e::es=>D8 (wE C ar n e) (wA C ar n es)
noncomputable def wTm (C:Calls) (ar:Nat->Nat):Nat->CE->WP (List D)
 | 0,_=>wNo
 | n+1,e=>match e with
  | .lst es=>wSh es (wA C ar n es)
  | .listOf a=>wOf (ai a) (wTm C ar n a) (wE C ar n a) (fun ds S Q=>Q ds S) sH
  | .listR a=>GR (wE C ar n a)
  | .srt a=>wOf (ai a) (wTm C ar n a) (wE C ar n a) (BX cD) (BZ cD)
  | .comp own elt cls=>wCf (wI C ar n) own (evT C ar n) (gD C ar n elt) cls
  | .non=>wNo
  | .bl _=>wNo
  | .int _=>wNo
  | .str _=>wNo
  | .var _=>wNo
  | .con _ _=>wNo
  | .tup _=>wNo
  | .bin _ _ _=>wNo
  | .neg _=>wNo
  | .cmp _ _ _=>wNo
  | .chn _ _ _ _ _=>wNo
  | .and _ _=>wNo
  | .or _ _=>wNo
  | .not _=>wNo
  | .ix _ _=>wNo
  | .sl _ _ _=>wNo
  | .call _ _=>wNo
  | .inst _ _=>wNo
  | .len _=>wNo
  | .all _=>wNo
  | .tupOf _=>wNo
  | .mxL _=>wNo
  | .mxD _ _=>wNo
  | .mx _ _=>wNo
  | .mn _ _=>wNo
  | .app _ _=>wNo
  | .ext _ _=>wNo
  | .popAt _ _=>wNo
  | .cnt _ _=>wNo
noncomputable def wI (C:Calls) (ar:Nat->Nat):Nat->CI->WP Nxt
 | 0,_=>wNo
 | n+1,it=>match it with
  | .val a=>wOf (ai a) (wTm C ar n a) (wE C ar n a) (fun ds S Q=>Q (nxL ds) S) yY
  | .r1 a=>wR1 (wE C ar n a)
  | .r2 a b=>wR2 (wE C ar n a) (wE C ar n b)
  | .zp a b=>KL (wE C ar n a) (wE C ar n b)
  | .en a=>wOf (ai a) (wTm C ar n a) (wE C ar n a) (fun ds S Q=>Q (p9 ds) S) yZ
noncomputable def wT (C:Calls) (ar:Nat->Nat):Nat->CE->WP Bool
 | 0,_=>wNo
 | n+1,e=>match e with
  | .cmp o a b=>wB (BT (wCm o) (wE C ar n a) (wE C ar n b))
  | .chn o p a b c=>wB (GP o p (wE C ar n a) (wE C ar n b) (wE C ar n c))
  | .and a b=>Ea (wT C ar n a) (wT C ar n b)
  | .or a b=>KN (wT C ar n a) (wT C ar n b)
  | .not a=>Eb (wT C ar n a)
  | .non=>wUn aI (wE C ar n (.non))
  | .bl b=>wUn aI (wE C ar n (.bl b))
  | .int i=>wUn aI (wE C ar n (.int i))
  | .str x=>wUn aI (wE C ar n (.str x))
  | .var i=>wUn aI (wE C ar n (.var i))
  | .con k v=>wUn aI (wE C ar n (.con k v))
  | .tup es=>wUn aI (wE C ar n (.tup es))
  | .lst es=>wUn aI (wE C ar n (.lst es))
  | .bin o a b=>wUn aI (wE C ar n (.bin o a b))
  | .neg a=>wUn aI (wE C ar n (.neg a))
  | .ix a b=>wUn aI (wE C ar n (.ix a b))
  | .sl a lo hi=>wUn aI (wE C ar n (.sl a lo hi))
  | .call f es=>wUn aI (wE C ar n (.call f es))
  | .inst t a=>wUn aI (wE C ar n (.inst t a))
  | .len a=>wUn aI (wE C ar n (.len a))
  | .all a=>wUn aI (wE C ar n (.all a))
  | .tupOf a=>wUn aI (wE C ar n (.tupOf a))
  | .listOf a=>wUn aI (wE C ar n (.listOf a))
  | .listR a=>wUn aI (wE C ar n (.listR a))
  | .srt a=>wUn aI (wE C ar n (.srt a))
  | .mxL a=>wUn aI (wE C ar n (.mxL a))
  | .mxD a c=>wUn aI (wE C ar n (.mxD a c))
  | .mx a b=>wUn aI (wE C ar n (.mx a b))
  | .mn a b=>wUn aI (wE C ar n (.mn a b))
  | .comp own elt cls=>wUn aI (wE C ar n (.comp own elt cls))
  | .app o a=>wUn aI (wE C ar n (.app o a))
  | .ext o a=>wUn aI (wE C ar n (.ext o a))
  | .popAt o a=>wUn aI (wE C ar n (.popAt o a))
  | .cnt o a=>wUn aI (wE C ar n (.cnt o a))
end
noncomputable def wCl (C:Calls) (ar:Nat->Nat) (n:Nat) (elt:CE):List Cl->WP (List D)
 | []=>wOn (fun d=>[d]) (wE C ar n elt)
 | ⟨tg,it,cond⟩::rest=>yX (wI C ar n it) tg (cnd (evT C ar n) cond (gD C ar n elt rest)) LF
theorem o5 {C:Calls} {ar:Nat->Nat}:∀ {n:Nat} {es:List CE} {ρ:Rho} {S S':Sto} {ds:List D},evA C ar n es ρ S=some (ds,S')->ds.length=es.length
 | 0,_,_,_,_,_,h=>by simp only [evA,xNo] at h;cases h
 | n+1,[],_,_,_,_,h=>by simp only [evA,AK] at h;cases h;rfl
 | n+1,e::es,_,_,_,_,h=>by
  simp only [evA,tG] at h
  obtain ⟨a,S1,e1,h⟩:=ab h
  obtain ⟨as,S2,e2,h⟩:=ab h
  cases h
  rw [List.length_cons,List.length_cons,o5 e2]
structure SndW (C:Calls) (ar:Nat->Nat) (n:Nat):Prop where
 e:∀ {e:CE},Sd (wE C ar n e) (evE C ar n e)
 a:∀ {es:List CE},Sd (wA C ar n es) (evA C ar n es)
 m:∀ {e:CE},Sd (wTm C ar n e) (cu C ar n e)
 i:∀ {i:CI},Sd (wI C ar n i) (evI C ar n i)
 t:∀ {e:CE},Sd (wT C ar n e) (evT C ar n e)
section
variable {C:Calls} {ar:Nat->Nat} {n:Nat}
theorem KR (h:SndW C ar n) {es:List CE}:Sd (wSh es (wOn D.tup (wA C ar n es))) (jS jT (evA C ar n es)):=fun ρ S Q w=>by
 obtain ⟨le,w⟩:=iR w
 obtain ⟨ds,S1,e1,q⟩:=h.a _ _ _ w
 refine aR ⟨ds,S1,e1,?_⟩
 have l:=o5 e1
 show Ok (jT ds S1) Q
 rw [BM]
 exact ⟨by omega,q⟩
theorem y8 (h:SndW C ar n) {es:List CE}:Sd (wSh es (wA C ar n es)) (mM (evA C ar n es)):=fun ρ S Q w=>by
 obtain ⟨le,w⟩:=iR w
 obtain ⟨ds,S1,e1,q⟩:=h.a _ _ _ w
 rw [BL]
 have l:=o5 e1
 exact ⟨ds,S1,e1,by omega,q⟩
theorem Ee (h:SndW C ar n) {o:Option CE}:Sd (wO (wO2 (wE C ar n) o)) (opt (evE C ar n) o):=by
 cases o with
 | none=>exact Mg
 | some e=>exact Mh h.e
theorem B1 {a b:D} {S:Sto} {Q:D->Sto->Prop} (h:y6 a b S Q):Ok (xI a b S) Q:=by
 obtain ⟨i,rfl,h'⟩:=ci h
 obtain ⟨j,rfl,h''⟩:=ci h'
 exact bv h''
theorem B2 {a b:D} {S:Sto} {Q:D->Sto->Prop} (h:y7 a b S Q):Ok (xJ a b S) Q:=by
 obtain ⟨i,rfl,h'⟩:=ci h
 obtain ⟨j,rfl,h''⟩:=ci h'
 exact bv h''
end
end Ev
namespace Ev
open PySem PySem.Spec PyProof.Rows L2
section
variable {C:Calls} {ar:Nat->Nat} {n:Nat}
theorem KS (h:SndW C ar n) {o:Option CE} {w:WP (List D)} {x:XA} (hw:Sd w x):Sd (B0 (wT C ar n) o w) (cnd (evT C ar n) o x):=by
 cases o with
 | none=>exact hw
 | some c=>exact GW h.t hw
theorem y9 {α β:Type} {f:α->Sto->Option (β × Sto)} {a:α} {S:Sto} {Q:β->Sto->Prop} (h:wOk f a S Q):Ok (f a S) Q:=h
theorem s_q (h:SndW C ar n) {f:Bool->List D->Sto->Option (D × Sto)} {a:CE}:Sd (wOf (ai a) (wTm C ar n a) (wE C ar n a) (wOk (f false)) (wOk (ad f))) (if ai a=true then pP f (cu C ar n a) else pQ f (evE C ar n a)):=
 s_of (BU (f:=f false) h.m y9) (BU (f:=ad f) h.e y9)
theorem Ef (h:SndW C ar n) {a:CE}:Sd (wOf (ai a) (wTm C ar n a) (wE C ar n a) (fun ds S Q=>Q ds S) sH) (if ai a=true then cu C ar n a else kU (evE C ar n a)):=s_of h.m (fun _ _ _ w=>aR (h.e _ _ _ w))
theorem Eg (h:SndW C ar n) {a:CE}:Sd (wOf (ai a) (wTm C ar n a) (wE C ar n a) (BX cD) (BZ cD)) (if ai a=true then vJ cD (cu C ar n a) else vK cD (evE C ar n a)):=s_of (KP h.m) (KQ h.e)
theorem s_u {g:D->Sto->Option (D × Sto)} {w:WP D} {x:XE} (hw:Sd w x):Sd (wUn (wOk g) w) (xUn g x):=BU (f:=g) hw y9
theorem Mp {w:WP (List D)} {x:XA} (hw:Sd w x):Sd (wUn (w2 y6) w) (jS (two xI) x):=fun _ _ _ h=>aR ((hw _ _ _ h).mono fun _ _ h=>Ed (fun z=>B1 z) h)
theorem Mq {w:WP (List D)} {x:XA} (hw:Sd w x):Sd (wUn (w2 y7) w) (jS (two xJ) x):=fun _ _ _ h=>aR ((hw _ _ _ h).mono fun _ _ h=>Ed (fun z=>B2 z) h)
theorem KU {w:WP D} {x:XE} (hw:Sd w x):Sd (wUn aI w) (AV x):=BU (f:=kF) hw y4
theorem qC:∀ n,SndW C ar n
 | 0=>⟨qB,qB,qB,qB,qB⟩
 | n+1=>by
  have h:=qC n
  refine ⟨fun {e}=>?_,fun {es}=>?_,fun {e}=>?_,fun {i}=>?_,fun {e}=>?_⟩
  ·cases e with
   | non=>exact s_c
   | bl b=>exact s_c
   | int b=>exact s_c
   | str b=>exact s_c
   | var b=>exact KB
   | con b v=>exact s_c
   | tup es=>exact KR h
   | lst es=>exact gz (y8 h)
   | bin o a b=>exact yT h.e h.e BV
   | neg a=>exact KI h.e
   | cmp o a b=>exact yT h.e h.e o0
   | chn o p a b c=>exact D5 h.e h.e h.e
   | and a b=>exact KD h.e h.e
   | or a b=>exact Mf h.e h.e
   | not a=>exact KG h.e
   | ix a b=>exact Mo h.m h.e h.e
   | sl a lo hi=>exact Mi h.e (Ee h) (Ee h)
   | call f es=>exact GQ h.a
   | inst t a=>exact s_u h.e
   | len a=>exact s_q h
   | all a=>exact s_q h
   | tupOf a=>exact s_q h
   | listOf a=>exact gz (Ef h)
   | listR a=>exact gz (D7 h.e)
   | srt a=>exact gz (Eg h)
   | mxL a=>exact s_q h
   | mxD a c=>exact s_q h
   | mx a b=>exact Mp h.a
   | mn a b=>exact Mq h.a
   | comp own elt cls=>cases cls with
    | nil=>exact gz qB
    | cons c rest=>cases c with | mk tg it cond=>exact gz (yW h.i)
   | app o a=>exact uk h.e h.a
   | popAt o a=>exact uk h.e h.a
   | ext o a=>exact uk h.e h.a
   | cnt o a=>exact uk h.e h.a
  ·cases es with
   | nil=>exact KK
   | cons e es=>exact GS h.e h.a
  ·cases e with
   | lst es=>exact y8 h
   | listOf a=>exact Ef h
   | listR a=>exact D7 h.e
   | srt a=>exact Eg h
   | comp own elt cls=>cases cls with
    | nil=>exact qB
    | cons c rest=>cases c with | mk tg it cond=>exact yW h.i
   | _=>exact qB
  ·cases i with
   | val a=>exact s_of (y3 h.m) (Mk h.e)
   | r1 a=>exact Mm h.e
   | r2 a b=>exact Mn h.e h.e
   | zp a b=>exact KM h.e h.e
   | en a=>exact s_of (y3 h.m) (Ml h.e)
  ·cases e with
   | cmp o a b=>exact s_b (yT h.e h.e o0)
   | chn o p a b c=>exact s_b (D5 h.e h.e h.e)
   | and a b=>exact GU h.t h.t
   | or a b=>exact KO h.t h.t
   | not a=>exact GV h.t
   | _=>exact KU h.e
theorem Mr {elt:CE} {cls:List Cl}:Sd (wCl C ar n elt cls) (gD C ar (n+1) elt cls):=by
 cases cls with
 | nil=>exact y3 (qC n).e
 | cons c rest=>cases c with | mk tg it cond=>exact BW (qC n).i
theorem GX {elt:CE} {cls:List Cl} {o:Option CE} {ρ:Rho} {S:Sto} {Q:List D->Sto->Prop} (h:B0 (wT C ar (n+1)) o (wCl C ar n elt cls) ρ S Q):Ok (cnd (evT C ar (n+1)) o (gD C ar (n+1) elt cls) ρ S) Q:=KS (qC (n+1)) Mr _ _ _ h
noncomputable def wNm:Nat->D->Rho->(Rho->Prop)->Prop
 | _,_,[],_=>False
 | 0,d,_::ρ,Q=>Q (some d::ρ)
 | i+1,d,o::ρ,Q=>wNm i d ρ fun ρ'=>Q (o::ρ')
theorem o6:∀ {i:Nat} {d:D} {ρ:Rho} {Q:Rho->Prop},wNm i d ρ Q->i < ρ.length/\Q (ρ.set i (some d))
 | i,_,[],_,h=>by cases i <;> exact h.elim
 | 0,d,_::ρ,Q,h=>⟨by simp,h⟩
 | i+1,d,o::ρ,Q,h=>by
  have:=o6 (ρ:=ρ) (Q:=fun ρ'=>Q (o::ρ')) h
  exact ⟨by rw [List.length_cons];omega,this.2⟩
noncomputable def wBs:List Tg->List D->Rho->(Rho->Prop)->Prop
 | [],[],ρ,Q=>Q ρ
 | [],_::_,_,_=>False
 | .name _::_,[],_,_=>False
 | .tup _::_,[],_,_=>False
 | .name i::ts,d::ds,ρ,Q=>wNm i d ρ fun ρ1=>wBs ts ds ρ1 Q
 | .tup us::ts,d::ds,ρ,Q=>∃ ρ1,ao (.tup us) d ρ=some ρ1/\wBs ts ds ρ1 Q
noncomputable def wTp (ts:List Tg) (d:D) (ρ:Rho) (Q:Rho->Prop):Prop:=match d with
 | .tup ds=>wBs ts ds ρ Q
 | .non=>False | .bl _=>False | .str _=>False | .int _=>False | .ref _=>False
noncomputable def wBd:Tg->D->Rho->(Rho->Prop)->Prop
 | .name i,d,ρ,Q=>wNm i d ρ Q
 | .tup ts,d,ρ,Q=>wTp ts d ρ Q
theorem zd {i:Nat} {d:D} {ρ:Rho} {Q:Rho->Prop} (h:wNm i d ρ Q):∃ ρ1,ao (.name i) d ρ=some ρ1/\Q ρ1:=⟨_,by rw [BQ,if_pos (o6 h).1],(o6 h).2⟩
theorem sI:∀ {ts:List Tg} {ds:List D} {ρ:Rho} {Q:Rho->Prop},wBs ts ds ρ Q->∃ ρ1,aF ts ds ρ=some ρ1/\Q ρ1
 | [],[],ρ,Q,h=>⟨ρ,ka,h⟩
 | [],_::_,_,_,h=>h.elim
 | .name _::_,[],_,_,h=>h.elim
 | .tup _::_,[],_,_,h=>h.elim
 | .name i::ts,d::ds,ρ,Q,h=>by
  obtain ⟨ρ1,e,q⟩:=zd h
  obtain ⟨ρ2,e2,q⟩:=sI q
  exact ⟨ρ2,by rw [aF,e];exact e2,q⟩
 | .tup us::ts,d::ds,ρ,Q,h=>by
  obtain ⟨ρ1,e,q⟩:=h
  obtain ⟨ρ2,e2,q⟩:=sI q
  exact ⟨ρ2,by rw [aF,e];exact e2,q⟩
theorem GY {t:Tg} {d:D} {ρ:Rho} {Q:Rho->Prop} (h:wBd t d ρ Q):∃ ρ1,ao t d ρ=some ρ1/\Q ρ1:=by
 cases t with
 | name i=>exact zd h
 | tup ts=>cases d with
  | tup ds=>rw [oV];exact sI h
  | _=>exact h.elim
noncomputable abbrev WS:=Rho->Sto->(Fl->Rho->Sto->Prop)->Prop
noncomputable def rW (y:WS) (ρ:Rho) (S:Sto) (Q:Fl->Rho->Sto->Prop):Prop:=y ρ S Q
noncomputable def wNx (y:WS) (Q:Fl->Rho->Sto->Prop) (f:Fl) (ρ:Rho) (S:Sto):Prop:=match f with
 | .nx=>rW y ρ S Q
 | .rt d=>Q (.rt d) ρ S
 | .bk=>Q .bk ρ S
 | .ct=>Q .ct ρ S
mutual
noncomputable def wS (C:Calls) (ar:Nat->Nat):Nat->CS->WS
 | 0,_=>fun _ _ _=>False
 | n+1,s=>match s with
  | .asg t e=>fun ρ S Q=>wE C ar n e ρ S fun d S1=>wBd t d ρ fun ρ1=>Q .nx ρ1 S1
  | .setI v o i=>fun ρ S Q=>wE C ar n v ρ S fun a S1=>wE C ar n o ρ S1 fun b S2=>wE C ar n i ρ S2 fun c S3=>∃ S4,kQ b c a S3=some S4/\Q .nx ρ S4
  | .ex e=>fun ρ S Q=>wE C ar n e ρ S fun _ S1=>Q .nx ρ S1
  | .ret e=>fun ρ S Q=>wE C ar n e ρ S fun d S1=>Q (.rt d) ρ S1
  | .ifs c a b=>fun ρ S Q=>wT C ar n c ρ S fun t S1=>wIf t (rW (wSs C ar n a) ρ S1 Q) (rW (wSs C ar n b) ρ S1 Q)
  | .for_ t it b=>fun ρ S Q=>wI C ar n it ρ S fun nx S1=>OkS (dX nx t (gZ C ar n b) LF 0 ρ S1) Q
  | .cnt=>fun ρ S Q=>Q .ct ρ S
  | .never=>fun _ _ _=>False
noncomputable def wSs (C:Calls) (ar:Nat->Nat):Nat->List CS->WS
 | 0,_=>fun _ _ _=>False
 | n+1,ss=>match ss with
  | []=>fun ρ S Q=>Q .nx ρ S
  | s::ss=>fun ρ S Q=>wS C ar n s ρ S (wNx (wSs C ar n ss) Q)
end
structure SdS (C:Calls) (ar:Nat->Nat) (n:Nat):Prop where
 s:∀ {s:CS} {ρ S Q},wS C ar n s ρ S Q->OkS (evS C ar n s ρ S) Q
 ss:∀ {ss:List CS} {ρ S Q},wSs C ar n ss ρ S Q->OkS (gZ C ar n ss ρ S) Q
theorem ze:∀ n,SdS C ar n
 | 0=>⟨fun h=>by simp only [wS] at h,fun h=>by simp only [wSs] at h⟩
 | n+1=>by
  have h:=ze n
  have g:SndW C ar n:=qC n
  refine ⟨fun {s ρ S Q} w=>?_,fun {ss ρ S Q} w=>?_⟩
  ·cases s with
   | asg t e=>simp only [evS,BG];simp only [wS] at w;exact (g.e _ _ _ w).mono fun d S1 w=>GY w
   | setI v o i=>simp only [evS,yP];simp only [wS] at w;exact (g.e _ _ _ w).mono fun a S1 w=>(g.e _ _ _ w).mono fun b S2 w=>g.e _ _ _ w
   | ex e=>simp only [evS,yO];simp only [wS] at w;exact g.e _ _ _ w
   | ret e=>simp only [evS,BH];simp only [wS] at w;exact g.e _ _ _ w
   | ifs c a b=>
    simp only [evS,Gi];simp only [wS] at w
    refine (g.t _ _ _ w).mono fun t S1 w=>?_
    cases t with
    | true=>exact h.ss w
    | false=>exact h.ss w
   | for_ t it b=>simp only [evS,BI];simp only [wS] at w;exact g.i _ _ _ w
   | cnt=>simp only [wS] at w;simp only [evS];exact ⟨_,_,_,rfl,w⟩
   | never=>simp only [wS] at w
  ·cases ss with
   | nil=>simp only [wSs] at w;simp only [gZ];exact ⟨_,_,_,rfl,w⟩
   | cons s ss=>
    simp only [wSs] at w
    simp only [gZ,BF]
    refine (h.s w).mono fun f ρ1 S1 w=>?_
    cases f with
    | nx=>exact h.ss w
    | _=>exact w
theorem GZ {ss:List CS} {ρ:Rho} {S:Sto} {Q:Fl->Rho->Sto->Prop} (h:rW (wSs C ar n ss) ρ S Q):OkS (gZ C ar n ss ρ S) Q:=(ze n).ss h
theorem zf {s:CS} {ss:List CS} {ρ:Rho} {S:Sto} {Q:Fl->Rho->Sto->Prop} (h:wS C ar n s ρ S (wNx (wSs C ar n ss) Q)):rW (wSs C ar (n+1) (s::ss)) ρ S Q:=h
theorem B3 {ρ:Rho} {S:Sto} {Q:Fl->Rho->Sto->Prop} (h:Q .nx ρ S):rW (wSs C ar (n+1) []) ρ S Q:=h
end
end Ev
namespace Ev
open PySem PySem.Spec PyProof.Rows L2
section
variable {C:Calls} {ar:Nat->Nat} {A B:Prop} {S S1:Sto} {Q:D->Sto->Prop} {Ql:List D->Sto->Prop} {Qn:Nxt->Sto->Prop} {Qb:Bool->Prop} {Qi:Int->Prop} {Qd:D->Prop} {Qr:Rho->Prop} {Qt:Bool->Sto->Prop} {Qs:Fl->Rho->Sto->Prop} {t:Bool} {d x y:D} {i j:Int} {n m f:Nat} {s:Str} {o:BOp} {c p:COp} {ds xs ys:List D} {l h:Option Int} {tg:Tg} {ts:List Tg} {ρ ρ2:Rho} {es:List CE} {a b e:CE} {oa ob cd:Option CE} {own:List Str} {it:CI} {rest:List Cl} {ty:Ty} {w wl:WP (List D)} {wv:WP D} {sa sb:List CS} {ws:WS} {od:Option D} {g:D->D->Sto->(D->Sto->Prop)->Prop}
theorem G0:wE C ar (n+1) (.non) ρ S Q=(Q .non S):=rfl
theorem KW:wE C ar (n+1) (.bl t) ρ S Q=(Q (.bl t) S):=rfl
theorem G1:wE C ar (n+1) (.int i) ρ S Q=(Q (.int i) S):=rfl
theorem G2:wE C ar (n+1) (.str s) ρ S Q=(Q (.str s) S):=rfl
theorem G3:wE C ar (n+1) (.con m i) ρ S Q=(Q (.int i) S):=rfl
theorem G4:wE C ar (n+1) (.var m) ρ S Q=(sD ρ m fun d=>Q d S):=rfl
theorem G5:wE C ar (n+1) (.tup es) ρ S Q=(ff 60 es (wA C ar n es ρ S fun ds S1=>Q (.tup ds) S1)):=rfl
theorem G6:wE C ar (n+1) (.lst es) ρ S Q=(ff 60 es (wA C ar n es ρ S fun ds S1=>Q (.ref S1.length) (S1++[.lst ds]))):=rfl
theorem G7:wE C ar (n+1) (.bin o a b) ρ S Q=(wE C ar n a ρ S fun x S1=>wE C ar n b ρ S1 fun y S2=>sE o x y S2 Q):=rfl
theorem G8:wE C ar (n+1) (.neg a) ρ S Q=(wE C ar n a ρ S fun d S1=>cU d fun i=>Q (.int (-i)) S1):=rfl
theorem G9:wE C ar (n+1) (.cmp c a b) ρ S Q=(wE C ar n a ρ S fun x S1=>wE C ar n b ρ S1 fun y S2=>wCm c x y S2 Q):=rfl
theorem Ha:wE C ar (n+1) (.chn c p a b e) ρ S Q=(wE C ar n a ρ S fun x S1=>wE C ar n b ρ S1 fun y S2=>wCm c x y S2 fun r S3=>wBl r fun t=>wIf t (wE C ar n e ρ S3 fun z S4=>wCm p y z S4 Q) (Q (.bl false) S3)):=rfl
theorem Hb:wE C ar (n+1) (.and a b) ρ S Q=(wE C ar n a ρ S fun d S1=>wBl d fun t=>wIf t (wE C ar n b ρ S1 Q) (Q (.bl false) S1)):=rfl
theorem KY:wE C ar (n+1) (.or a b) ρ S Q=(wE C ar n a ρ S fun d S1=>wBl d fun t=>wIf t (Q (.bl true) S1) (wE C ar n b ρ S1 Q)):=rfl
theorem Hc:wE C ar (n+1) (.not a) ρ S Q=(wE C ar n a ρ S fun d S1=>wBl d fun t=>Q (.bl (!t)) S1):=rfl
theorem KZ:wE C ar (n+1) (.ix a b) ρ S Q=(aW (ai a) (wTm C ar n a) (wE C ar n a) ρ S (fun ds S1=>wE C ar n b ρ S1 fun i S2=>cU i fun k=>∃ d,atI ds k=some d/\Q d S2) (fun d S1=>wE C ar n b ρ S1 fun i S2=>Ok (ixS d i S2) Q)):=rfl
theorem B4:wE C ar (n+1) (.sl a none none) ρ S Q=(wE C ar n a ρ S fun d S1=>sF none none d S1 Q):=rfl
theorem B5:wE C ar (n+1) (.sl a none (some b)) ρ S Q=(wE C ar n a ρ S fun d S1=>wE C ar n b ρ S1 fun y S2=>cU y fun j=>sF none (some j) d S2 Q):=rfl
theorem B6:wE C ar (n+1) (.sl a (some b) none) ρ S Q=(wE C ar n a ρ S fun d S1=>wE C ar n b ρ S1 fun y S2=>cU y fun j=>sF (some j) none d S2 Q):=rfl
theorem B7:wE C ar (n+1) (.sl a (some b) (some e)) ρ S Q=(wE C ar n a ρ S fun d S1=>wE C ar n b ρ S1 fun y S2=>cU y fun j=>wE C ar n e ρ S2 fun z S3=>cU z fun k=>sF (some j) (some k) d S3 Q):=rfl
theorem B8:wE C ar (n+1) (.call f es) ρ S Q=(wA C ar n es ρ S fun ds S1=>ds.length=ar f/\Ok (C f ds S1) Q):=rfl
theorem B9:wE C ar (n+1) (.inst ty a) ρ S Q=(wE C ar n a ρ S fun d S1=>Ok (kI ty d S1) Q):=rfl
theorem Hd:wE C ar (n+1) (.len a) ρ S Q=(aW (ai a) (wTm C ar n a) (wE C ar n a) ρ S (fun ds S1=>Ok (bx false ds S1) Q) (fun d S1=>Ok (ad bx d S1) Q)):=rfl
theorem He:wE C ar (n+1) (.all a) ρ S Q=(aW (ai a) (wTm C ar n a) (wE C ar n a) ρ S (fun ds S1=>Ok (mv false ds S1) Q) (fun d S1=>Ok (ad mv d S1) Q)):=rfl
theorem zg:wE C ar (n+1) (.tupOf a) ρ S Q=(aW (ai a) (wTm C ar n a) (wE C ar n a) ρ S (fun ds S1=>Ok (b7 false ds S1) Q) (fun d S1=>Ok (ad b7 d S1) Q)):=rfl
theorem Hf:wE C ar (n+1) (.mxL a) ρ S Q=(aW (ai a) (wTm C ar n a) (wE C ar n a) ρ S (fun ds S1=>Ok (jV false ds S1) Q) (fun d S1=>Ok (ad jV d S1) Q)):=rfl
theorem Hg:wE C ar (n+1) (.mxD a i) ρ S Q=(aW (ai a) (wTm C ar n a) (wE C ar n a) ρ S (fun ds S1=>Ok (gH i false ds S1) Q) (fun d S1=>Ok (ad (gH i) d S1) Q)):=rfl
theorem vR:wE C ar (n+1) (.listOf a) ρ S Q=(aW (ai a) (wTm C ar n a) (wE C ar n a) ρ S (fun ds S1=>Q (.ref S1.length) (S1++[.lst ds])) (fun d S1=>Ok ((ak d S1).map fun r=>(r.2,S1)) fun ds S1=>Q (.ref S1.length) (S1++[.lst ds]))):=rfl
theorem zh:wE C ar (n+1) (.listR a) ρ S Q=(wE C ar n a ρ S fun d S1=>∃ i:Nat,d = .int i/\i<=1000/\Q (.ref S1.length) (S1++[.lst ((List.range i).map fun j=>.int (Int.ofNat j))])):=rfl
theorem Hh:wE C ar (n+1) (.srt a) ρ S Q=(aW (ai a) (wTm C ar n a) (wE C ar n a) ρ S (fun ds S1=>∃ es,cD false ds=some es/\Q (.ref S1.length) (S1++[.lst es])) (fun d S1=>∃ r es,ak d S1=some r/\cD r.1 r.2=some es/\Q (.ref S1.length) (S1++[.lst es]))):=rfl
theorem K0:wE C ar (n+1) (.mx a b) ρ S Q=(wA C ar n [a,b] ρ S fun ds S1=>w2 y6 ds S1 Q):=rfl
theorem K1:wE C ar (n+1) (.mn a b) ρ S Q=(wA C ar n [a,b] ρ S fun ds S1=>w2 y7 ds S1 Q):=rfl
theorem Ca:wE C ar (n+1) (.comp own a (⟨tg,it,cd⟩::rest)) ρ S Q=(wI C ar n it ρ S fun nx S1=>qz own [] fun r=>qA ρ r fun ρ'=>wFt tg ρ' (Ok (aX nx tg (cnd (evT C ar n) cd (gD C ar n a rest)) ρ' LF 0 S1) fun es S2=>es.length<=100000/\Q (.ref S2.length) (S2++[.lst es]))):=rfl
theorem Hi:wE C ar (n+1) (.app a b) ρ S Q=(wE C ar n a ρ S fun d S1=>dW d S1=true/\wA C ar n [b] ρ S1 fun as S2=>Ok (se d as S2) Q):=rfl
theorem zi:wE C ar (n+1) (.popAt a b) ρ S Q=(wE C ar n a ρ S fun d S1=>dW d S1=true/\wA C ar n [b] ρ S1 fun as S2=>Ok (eN d as S2) Q):=rfl
theorem Hj:wE C ar (n+1) (.ext a e) ρ S Q=(wE C ar n a ρ S fun d S1=>dW d S1=true/\wA C ar n [e] ρ S1 fun as S2=>Ok (sg d as S2) Q):=rfl
theorem Hk:wE C ar (n+1) (.cnt a b) ρ S Q=(wE C ar n a ρ S fun d S1=>isTup d=true/\wA C ar n [b] ρ S1 fun as S2=>Ok (sf d as S2) Q):=rfl
theorem Ms:wA C ar (n+1) [] ρ S Ql=Ql [] S:=rfl
theorem Mt:wA C ar (n+1) (a::es) ρ S Ql=(wE C ar n a ρ S fun d S1=>wA C ar n es ρ S1 fun ds S2=>Ql (d::ds) S2):=rfl
theorem Hl:wTm C ar (n+1) (.lst es) ρ S Ql=ff 60 es (wA C ar n es ρ S Ql):=rfl
theorem vS:wTm C ar (n+1) (.listOf a) ρ S Ql=(aW (ai a) (wTm C ar n a) (wE C ar n a) ρ S (fun ds S1=>Ql ds S1) (fun d S1=>Ok ((ak d S1).map fun r=>(r.2,S1)) Ql)):=rfl
theorem zj:wTm C ar (n+1) (.listR a) ρ S Ql=(wE C ar n a ρ S fun d S1=>∃ i:Nat,d = .int i/\i<=1000/\Ql ((List.range i).map fun j=>.int (Int.ofNat j)) S1):=rfl
theorem Hm:wTm C ar (n+1) (.srt a) ρ S Ql=(aW (ai a) (wTm C ar n a) (wE C ar n a) ρ S (fun ds S1=>∃ es,cD false ds=some es/\Ql es S1) (fun d S1=>∃ r es,ak d S1=some r/\cD r.1 r.2=some es/\Ql es S1)):=rfl
theorem Cb:wTm C ar (n+1) (.comp own a (⟨tg,it,cd⟩::rest)) ρ S Ql=(wI C ar n it ρ S fun nx S1=>qz own [] fun r=>qA ρ r fun ρ'=>wFt tg ρ' (Ok (aX nx tg (cnd (evT C ar n) cd (gD C ar n a rest)) ρ' LF 0 S1) fun es S2=>es.length<=100000/\Ql es S2)):=rfl
theorem Hn:wI C ar (n+1) (.val a) ρ S Qn=(aW (ai a) (wTm C ar n a) (wE C ar n a) ρ S (fun ds S1=>Qn (nxL ds) S1) (fun d S1=>yY d S1 Qn)):=rfl
theorem K2:wI C ar (n+1) (.en a) ρ S Qn=(aW (ai a) (wTm C ar n a) (wE C ar n a) ρ S (fun ds S1=>Qn (p9 ds) S1) (fun d S1=>yZ d S1 Qn)):=rfl
theorem K3:wI C ar (n+1) (.r1 a) ρ S Qn=(wE C ar n a ρ S fun d S1=>cU d fun j=>lim j=true/\Qn (nxR 0 j.toNat) S1):=rfl
theorem K4:wI C ar (n+1) (.zp a b) ρ S Qn=(wE C ar n a ρ S fun d S1=>wE C ar n b ρ S1 fun e S2=>∃ x y,d = .ref x/\e = .ref y/\((aj S2 x).isSome=true/\(aj S2 y).isSome=true)/\Qn (nxZ x y) S2):=rfl
theorem K5:wI C ar (n+1) (.r2 a b) ρ S Qn=(wE C ar n a ρ S fun d S1=>wE C ar n b ρ S1 fun e S2=>cU d fun i=>cU e fun j=>(lim i=true/\lim j=true)/\Qn (nxR i (j - i).toNat) S2):=rfl
theorem Ho:wT C ar (n+1) (.cmp c a b) ρ S Qt=(wE C ar n a ρ S fun x S1=>wE C ar n b ρ S1 fun y S2=>wCm c x y S2 fun d S3=>wBl d fun t=>Qt t S3):=rfl
theorem Hq:wT C ar (n+1) (.chn c p a b e) ρ S Qt=(wE C ar n a ρ S fun x S1=>wE C ar n b ρ S1 fun y S2=>wCm c x y S2 fun r S3=>wBl r fun t=>wIf t (wE C ar n e ρ S3 fun z S4=>wCm p y z S4 fun d S5=>wBl d fun t=>Qt t S5) (wBl (.bl false) fun t=>Qt t S3)):=rfl
theorem Hr:wT C ar (n+1) (.and a b) ρ S Qt=(wT C ar n a ρ S fun t S1=>wIf t (wT C ar n b ρ S1 Qt) (Qt false S1)):=rfl
theorem K6:wT C ar (n+1) (.or a b) ρ S Qt=(wT C ar n a ρ S fun t S1=>wIf t (Qt true S1) (wT C ar n b ρ S1 Qt)):=rfl
theorem Hs:wT C ar (n+1) (.not a) ρ S Qt=(wT C ar n a ρ S fun t S1=>Qt (!t) S1):=rfl
theorem K7:wT C ar (n+1) (.bl t) ρ S Qt=(wE C ar n (.bl t) ρ S fun d S1=>aI d S1 Qt):=rfl
theorem Ht:wT C ar (n+1) (.var m) ρ S Qt=(wE C ar n (.var m) ρ S fun d S1=>aI d S1 Qt):=rfl
theorem Cc:wT C ar (n+1) (.call f es) ρ S Qt=(wE C ar n (.call f es) ρ S fun d S1=>aI d S1 Qt):=rfl
theorem Cd:wT C ar (n+1) (.inst ty a) ρ S Qt=(wE C ar n (.inst ty a) ρ S fun d S1=>aI d S1 Qt):=rfl
theorem Hu:wT C ar (n+1) (.all a) ρ S Qt=(wE C ar n (.all a) ρ S fun d S1=>aI d S1 Qt):=rfl
theorem Hv:wT C ar (n+1) (.len a) ρ S Qt=(wE C ar n (.len a) ρ S fun d S1=>aI d S1 Qt):=rfl
theorem K8:wT C ar (n+1) (.ix a b) ρ S Qt=(wE C ar n (.ix a b) ρ S fun d S1=>aI d S1 Qt):=rfl
theorem Hw:wT C ar (n+1) (.lst es) ρ S Qt=(wE C ar n (.lst es) ρ S fun d S1=>aI d S1 Qt):=rfl
theorem Hx:wT C ar (n+1) (.tup es) ρ S Qt=(wE C ar n (.tup es) ρ S fun d S1=>aI d S1 Qt):=rfl
theorem Mu:wCl C ar n a [] ρ S Ql=(wE C ar n a ρ S fun d S1=>Ql [d] S1):=rfl
theorem Mv:wCl C ar n a (⟨tg,it,cd⟩::rest) ρ S Ql=(wFt tg ρ (wI C ar n it ρ S fun nx S1=>Ok (aX nx tg (cnd (evT C ar n) cd (gD C ar n a rest)) ρ LF 0 S1) Ql)):=rfl
theorem Mw:B0 (wT C ar n) none w ρ S Ql=w ρ S Ql:=rfl
theorem Mx:B0 (wT C ar n) (some a) w ρ S Ql=(wT C ar n a ρ S fun t S1=>wIf t (w ρ S1 Ql) (Ql [] S1)):=rfl
theorem Hy:wS C ar (n+1) (.asg tg a) ρ S Qs=(wE C ar n a ρ S fun d S1=>wBd tg d ρ fun ρ1=>Qs .nx ρ1 S1):=rfl
theorem Ce:wS C ar (n+1) (.setI a b e) ρ S Qs=(wE C ar n a ρ S fun x S1=>wE C ar n b ρ S1 fun y S2=>wE C ar n e ρ S2 fun z S3=>∃ S4,kQ y z x S3=some S4/\Qs .nx ρ S4):=rfl
theorem K9:wS C ar (n+1) (.ex a) ρ S Qs=(wE C ar n a ρ S fun _ S1=>Qs .nx ρ S1):=rfl
theorem Hz:wS C ar (n+1) (.ret a) ρ S Qs=(wE C ar n a ρ S fun d S1=>Qs (.rt d) ρ S1):=rfl
theorem HA:wS C ar (n+1) (.ifs a sa sb) ρ S Qs=(wT C ar n a ρ S fun t S1=>wIf t (rW (wSs C ar n sa) ρ S1 Qs) (rW (wSs C ar n sb) ρ S1 Qs)):=rfl
theorem HB:wS C ar (n+1) (.for_ tg it sa) ρ S Qs=(wI C ar n it ρ S fun nx S1=>OkS (dX nx tg (gZ C ar n sa) LF 0 ρ S1) Qs):=rfl
theorem HC:wS C ar (n+1) .cnt ρ S Qs=Qs .ct ρ S:=rfl
theorem La:wNx ws Qs .nx ρ S=rW ws ρ S Qs:=rfl
theorem Lb:wNx ws Qs (.rt d) ρ S=Qs (.rt d) ρ S:=rfl
theorem Lc:wNx ws Qs .bk ρ S=Qs .bk ρ S:=rfl
theorem Ld:wNx ws Qs .ct ρ S=Qs .ct ρ S:=rfl
theorem HD:wIf (true && t) A B=wIf t A B:=rfl
theorem HE:wIf (false && t) A B=B:=rfl
theorem HF:wIf (true || t) A B=A:=rfl
theorem Cf:wIf (false || t) A B=wIf t A B:=rfl
theorem Cg:wIf (!(true && t)) A B=wIf (!t) A B:=rfl
theorem Ch:wIf (!(false && t)) A B=A:=rfl
theorem Ci:wIf (!(true || t)) A B=B:=rfl
theorem Cj:wIf (!(false || t)) A B=wIf (!t) A B:=rfl
theorem Lf:wIf true A B=A:=rfl
theorem Lg:wIf false A B=B:=rfl
theorem HG:wIf (!true) A B=B:=rfl
theorem HH:wIf (!false) A B=A:=rfl
theorem Lh:wBl (.bl t) Qb=Qb t:=rfl
theorem HI:cU (.int i) Qi=Qi i:=rfl
theorem HJ:sD (some d::ρ) 0 Qd=Qd d:=rfl
theorem HK:sD (od::ρ) (n+1) Qd=sD ρ n Qd:=rfl
theorem Li:wFr (none::ρ) 0 A=A:=rfl
theorem Lj:wFr (od::ρ) (n+1) A=wFr ρ n A:=rfl
theorem HL:qy [] ρ A=A:=rfl
theorem HM:qy (.name m::ts) ρ A=wFr ρ m (qy ts ρ A):=rfl
theorem Lk:wFt (.name m) ρ A=wFr ρ m A:=rfl
theorem Ll:wFt (.tup ts) ρ A=qy ts ρ A:=rfl
theorem HN:qz [] ρ Qr=Qr ρ:=rfl
theorem HP:qz (s::own) ρ Qr=qz own (none::ρ) Qr:=rfl
theorem HQ:qA [] ρ Qr=Qr ρ:=rfl
theorem HR:qA (od::ρ) ρ2 Qr=qA ρ ρ2 fun r=>Qr (od::r):=rfl
theorem Lm:ff (n+1) [] A=A:=rfl
theorem Ln:ff (n+1) (a::es) A=ff n es A:=rfl
theorem Lo:wNm 0 d (od::ρ) Qr=Qr (some d::ρ):=rfl
theorem Lp:wNm (n+1) d (od::ρ) Qr=wNm n d ρ fun r=>Qr (od::r):=rfl
theorem Lq:wBs [] [] ρ Qr=Qr ρ:=rfl
theorem Lr:wBs (.name m::ts) (d::ds) ρ Qr=wNm m d ρ fun r=>wBs ts ds r Qr:=rfl
theorem Lu:wBd (.name m) d ρ Qr=wNm m d ρ Qr:=rfl
theorem Lv:wBd (.tup ts) d ρ Qr=wTp ts d ρ Qr:=rfl
theorem Lx:wTp ts (.tup ds) ρ Qr=wBs ts ds ρ Qr:=rfl
theorem Ck:wII .add i j S Q=Q (.int (i+j)) S:=rfl
theorem Cm:wII .sub i j S Q=Q (.int (i - j)) S:=rfl
theorem Cn:wII .mul i j S Q=(iw i j=true/\Q (.int (i * j)) S):=rfl
theorem Co:wII .mod i j S Q=(0 < j/\Q (.int (i % j)) S):=rfl
theorem zk:wII .fdiv i j S Q=((0 < j/\j < 1073741824)/\Q (.int (i / j)) S):=rfl
theorem Cp:wII .pow i j S Q=((0<=j/\j<=1000000/\i.natAbs < 2 ^ 64)/\Q (.int (i ^ j.toNat)) S):=rfl
theorem Cq:wTT .add xs ys S Q=(xs.length+ys.length<=1000/\Q (.tup (xs++ys)) S):=rfl
theorem Cr:yU o i (.int j) S Q=wII o i j S Q:=rfl
theorem Cs:uj o xs (.tup ys) S Q=wTT o xs ys S Q:=rfl
theorem Ct:uj o xs (.int j) S Q=Ok (bG o (.tup xs) (.int j) S) Q:=rfl
theorem HS:sE o (.int i) y S Q=yU o i y S Q:=rfl
theorem HU:sE o (.tup xs) y S Q=uj o xs y S Q:=rfl
theorem HV:sE o (.ref n) y S Q=Ok (bG o (.ref n) y S) Q:=rfl
theorem HW:sE o (.str s) y S Q=Ok (bG o (.str s) y S) Q:=rfl
theorem HX:wCI .eq i j S Q=Q (.bl (decide (i=j))) S:=rfl
theorem HY:wCm .eq x y S Q=wCx .eq x y S Q:=rfl
theorem HZ:wCI .ne i j S Q=Q (.bl (!decide (i=j))) S:=rfl
theorem H8:wCm .ne x y S Q=wCx .ne x y S Q:=rfl
theorem Ia:wCI .lt i j S Q=Q (.bl (decide (i < j))) S:=rfl
theorem Ib:wCm .lt x y S Q=wCx .lt x y S Q:=rfl
theorem Ic:wCI .le i j S Q=Q (.bl (decide (i<=j))) S:=rfl
theorem Ie:wCm .le x y S Q=wCx .le x y S Q:=rfl
theorem Ig:wCI .gt i j S Q=Q (.bl (decide (j < i))) S:=rfl
theorem Ih:wCm .gt x y S Q=wCx .gt x y S Q:=rfl
theorem Ii:wCI .ge i j S Q=Q (.bl (decide (j<=i))) S:=rfl
theorem Ij:wCm .ge x y S Q=wCx .ge x y S Q:=rfl
theorem Ik:wCm .is x y S Q=Ok (av .is x y S) Q:=rfl
theorem vT:wCm .isnot x y S Q=Ok (av .isnot x y S) Q:=rfl
theorem zl:wCm .isin x y S Q=Ok (av .isin x y S) Q:=rfl
theorem vU:wCm .notin x y S Q=Ok (av .notin x y S) Q:=rfl
theorem Ly:wCx c (.int i) y S Q=GN c i y S Q:=rfl
theorem Lz:wCx c (.tup xs) y S Q=qx c xs y S Q:=rfl
theorem LA:wCx c .non y S Q=Ok (av c .non y S) Q:=rfl
theorem LB:wCx c (.bl t) y S Q=Ok (av c (.bl t) y S) Q:=rfl
theorem LC:wCx c (.str s) y S Q=Ok (av c (.str s) y S) Q:=rfl
theorem LD:wCx c (.ref n) y S Q=Ok (av c (.ref n) y S) Q:=rfl
theorem Il:GN c i (.int j) S Q=wCI c i j S Q:=rfl
theorem Im:qx .eq xs (.tup []) S Q=Q (.bl xs.isEmpty) S:=rfl
theorem Io:qx .ne xs (.tup []) S Q=Q (.bl (!xs.isEmpty)) S:=rfl
theorem Cu:qx .eq xs (.tup (y::ys)) S Q=Ok (av .eq (.tup xs) (.tup (y::ys)) S) Q:=rfl
theorem Cv:qx .ne xs (.tup (y::ys)) S Q=Ok (av .ne (.tup xs) (.tup (y::ys)) S) Q:=rfl
theorem Ip:sF l h (.tup ds) S Q=Q (.tup (gC ds l h)) S:=rfl
theorem Iq:sF l h (.ref n) S Q=Ok (slS l h (.ref n) S) Q:=rfl
theorem Ir:yY (.tup ds) S Qn=Qn (nxL ds) S:=rfl
theorem Iu:yY (.ref n) S Qn=((aj S n).isSome=true/\Qn (nxS n) S):=rfl
theorem Iv:yZ (.tup ds) S Qn=Qn (p9 ds) S:=rfl
theorem Iw:yZ (.ref n) S Qn=((aj S n).isSome=true/\Qn (xR n) S):=rfl
theorem Cw:aI (.bl t) S Qt=Qt t S:=rfl
theorem Cy:aI (.tup ds) S Qt=Qt (!ds.isEmpty) S:=rfl
theorem Cz:aI (.int i) S Qt=Qt (i != 0) S:=rfl
theorem CA:aI (.ref n) S Qt=Ok (kF (.ref n) S) Qt:=rfl
theorem My:w2 g [x,y] S Q=g x y S Q:=rfl
theorem Ix:y6 (.int i) (.int j) S Q=Q (.int (if j > i then j else i)) S:=rfl
theorem Iy:y7 (.int i) (.int j) S Q=Q (.int (if j < i then j else i)) S:=rfl
theorem CB:aW (ai (.lst es)) wl wv ρ S Ql Q=wl ρ S Ql:=rfl
theorem sJ:aW (ai (.listOf a)) wl wv ρ S Ql Q=wl ρ S Ql:=rfl
theorem vV:aW (ai (.listR a)) wl wv ρ S Ql Q=wl ρ S Ql:=rfl
theorem CC:aW (ai (.srt a)) wl wv ρ S Ql Q=wl ρ S Ql:=rfl
theorem zm:aW (ai (.comp own a rest)) wl wv ρ S Ql Q=wl ρ S Ql:=rfl
theorem CD:aW (ai (.non)) wl wv ρ S Ql Q=wv ρ S Q:=rfl
theorem Iz:aW (ai (.bl t)) wl wv ρ S Ql Q=wv ρ S Q:=rfl
theorem CF:aW (ai (.int i)) wl wv ρ S Ql Q=wv ρ S Q:=rfl
theorem CG:aW (ai (.str s)) wl wv ρ S Ql Q=wv ρ S Q:=rfl
theorem CH:aW (ai (.var m)) wl wv ρ S Ql Q=wv ρ S Q:=rfl
theorem CJ:aW (ai (.con m i)) wl wv ρ S Ql Q=wv ρ S Q:=rfl
theorem CK:aW (ai (.tup es)) wl wv ρ S Ql Q=wv ρ S Q:=rfl
theorem CL:aW (ai (.bin o a b)) wl wv ρ S Ql Q=wv ρ S Q:=rfl
theorem CM:aW (ai (.neg a)) wl wv ρ S Ql Q=wv ρ S Q:=rfl
theorem CN:aW (ai (.cmp c a b)) wl wv ρ S Ql Q=wv ρ S Q:=rfl
theorem CO:aW (ai (.chn c p a b e)) wl wv ρ S Ql Q=wv ρ S Q:=rfl
theorem CP:aW (ai (.and a b)) wl wv ρ S Ql Q=wv ρ S Q:=rfl
theorem IA:aW (ai (.or a b)) wl wv ρ S Ql Q=wv ρ S Q:=rfl
theorem CQ:aW (ai (.not a)) wl wv ρ S Ql Q=wv ρ S Q:=rfl
theorem IB:aW (ai (.ix a b)) wl wv ρ S Ql Q=wv ρ S Q:=rfl
theorem IC:aW (ai (.sl a oa ob)) wl wv ρ S Ql Q=wv ρ S Q:=rfl
theorem zn:aW (ai (.call f es)) wl wv ρ S Ql Q=wv ρ S Q:=rfl
theorem zo:aW (ai (.inst ty a)) wl wv ρ S Ql Q=wv ρ S Q:=rfl
theorem CT:aW (ai (.len a)) wl wv ρ S Ql Q=wv ρ S Q:=rfl
theorem CU:aW (ai (.all a)) wl wv ρ S Ql Q=wv ρ S Q:=rfl
theorem vW:aW (ai (.tupOf a)) wl wv ρ S Ql Q=wv ρ S Q:=rfl
theorem CV:aW (ai (.mxL a)) wl wv ρ S Ql Q=wv ρ S Q:=rfl
theorem CW:aW (ai (.mxD a i)) wl wv ρ S Ql Q=wv ρ S Q:=rfl
theorem IE:aW (ai (.mx a b)) wl wv ρ S Ql Q=wv ρ S Q:=rfl
theorem IG:aW (ai (.mn a b)) wl wv ρ S Ql Q=wv ρ S Q:=rfl
theorem CY:aW (ai (.app a b)) wl wv ρ S Ql Q=wv ρ S Q:=rfl
theorem vX:aW (ai (.popAt a b)) wl wv ρ S Ql Q=wv ρ S Q:=rfl
theorem CZ:aW (ai (.ext a e)) wl wv ρ S Ql Q=wv ρ S Q:=rfl
theorem C0:aW (ai (.cnt a b)) wl wv ρ S Ql Q=wv ρ S Q:=rfl
theorem aa {α:Type} {z:Option (α × Sto)} {r:α} {S2:Sto} {K:α->Sto->Prop} (e:z=some (r,S2)) (q:K r S2):Ok z K:=⟨r,S2,e,q⟩
theorem bq (h1:t=true->A) (h2:t=false->B):wIf t A B:=by
 cases t with
 | true=>exact h1 rfl
 | false=>exact h2 rfl
end
end Ev
local macro_rules | `(tactic| k_go)=>`(tactic| dsimp only [↓Ev.G0,↓Ev.KW,↓Ev.G1,↓Ev.G2,↓Ev.G3,↓Ev.G4,↓Ev.G5,↓Ev.G6,↓Ev.G7,↓Ev.G8,↓Ev.G9,↓Ev.Ha,↓Ev.Hb,↓Ev.KY,↓Ev.Hc,↓Ev.KZ,↓Ev.B4,↓Ev.B5,↓Ev.B6,↓Ev.B7,↓Ev.B8,↓Ev.B9,↓Ev.Hd,↓Ev.He,↓Ev.zg,↓Ev.Hf,↓Ev.Hg,↓Ev.vR,↓Ev.zh,↓Ev.Hh,↓Ev.K0,↓Ev.K1,↓Ev.Ca,↓Ev.Hi,↓Ev.zi,↓Ev.Hj,↓Ev.Hk,↓Ev.Ms,↓Ev.Mt,↓Ev.Hl,↓Ev.vS,↓Ev.zj,↓Ev.Hm,↓Ev.Cb,↓Ev.Hn,↓Ev.K2,↓Ev.K3,↓Ev.K4,↓Ev.K5,↓Ev.Ho,↓Ev.Hq,↓Ev.Hr,↓Ev.K6,↓Ev.Hs,↓Ev.K7,↓Ev.Ht,↓Ev.Cc,↓Ev.Cd,↓Ev.Hu,↓Ev.Hv,↓Ev.K8,↓Ev.Hw,↓Ev.Hx,↓Ev.Mu,↓Ev.Mv,↓Ev.Mw,↓Ev.Mx,↓Ev.Hy,↓Ev.Ce,↓Ev.K9,↓Ev.Hz,↓Ev.HA,↓Ev.HB,↓Ev.HC,↓Ev.La,↓Ev.Lb,↓Ev.Lc,↓Ev.Ld,↓Ev.HD,↓Ev.HE,↓Ev.HF,↓Ev.Cf,↓Ev.Cg,↓Ev.Ch,↓Ev.Ci,↓Ev.Cj,↓Ev.Lf,↓Ev.Lg,↓Ev.HG,↓Ev.HH,↓Ev.Lh,↓Ev.HI,↓Ev.HJ,↓Ev.HK,↓Ev.Li,↓Ev.Lj,↓Ev.HL,↓Ev.HM,↓Ev.Lk,↓Ev.Ll,↓Ev.HN,↓Ev.HP,↓Ev.HQ,↓Ev.HR,↓Ev.Lm,↓Ev.Ln,↓Ev.Lo,↓Ev.Lp,↓Ev.Lq,↓Ev.Lr,↓Ev.Lu,↓Ev.Lv,↓Ev.Lx,↓Ev.Ck,↓Ev.Cm,↓Ev.Cn,↓Ev.Co,↓Ev.zk,↓Ev.Cp,↓Ev.Cq,↓Ev.Cr,↓Ev.Cs,↓Ev.Ct,↓Ev.HS,↓Ev.HU,↓Ev.HV,↓Ev.HW,↓Ev.HX,↓Ev.HY,↓Ev.HZ,↓Ev.H8,↓Ev.Ia,↓Ev.Ib,↓Ev.Ic,↓Ev.Ie,↓Ev.Ig,↓Ev.Ih,↓Ev.Ii,↓Ev.Ij,↓Ev.Ik,↓Ev.vT,↓Ev.zl,↓Ev.vU,↓Ev.Ly,↓Ev.Lz,↓Ev.LA,↓Ev.LB,↓Ev.LC,↓Ev.LD,↓Ev.Il,↓Ev.Im,↓Ev.Io,↓Ev.Cu,↓Ev.Cv,↓Ev.Ip,↓Ev.Iq,↓Ev.Ir,↓Ev.Iu,↓Ev.Iv,↓Ev.Iw,↓Ev.Cw,↓Ev.Cy,↓Ev.Cz,↓Ev.CA,↓Ev.My,↓Ev.Ix,↓Ev.Iy,↓Ev.CB,↓Ev.sJ,↓Ev.vV,↓Ev.CC,↓Ev.zm,↓Ev.CD,↓Ev.Iz,↓Ev.CF,↓Ev.CG,↓Ev.CH,↓Ev.CJ,↓Ev.CK,↓Ev.CL,↓Ev.CM,↓Ev.CN,↓Ev.CO,↓Ev.CP,↓Ev.IA,↓Ev.CQ,↓Ev.IB,↓Ev.IC,↓Ev.zn,↓Ev.zo,↓Ev.CT,↓Ev.CU,↓Ev.vW,↓Ev.CV,↓Ev.CW,↓Ev.IE,↓Ev.IG,↓Ev.CY,↓Ev.vX,↓Ev.CZ,↓Ev.C0,↓Ev.Gj,↓Ev.Gk])
local macro_rules | `(tactic| k_is)=>`(tactic| ((with_reducible first | refine Ev.GZ ?_ | refine Ev.GX ?_ | refine Ev.wcl_ok ?_ | skip);(try dsimp only [List.set_cons_zero,List.set_cons_succ]);(try k_go);(repeat ((with_reducible first | refine Ev.zf ?_ | refine Ev.B3 ?_);(try k_go)))))
namespace Lw
open PySem Ev
variable {p:Nat} {S:Sto} {k:Nat} {Q:D->Sto->Prop}
theorem zq {t:Dw.D} {d:D} (h:TD p S t d) (q:Q (.bl (Dw.isW t)) S):Ok (evC ag (k+1) ls [d] S) Q:=by
 refine aE (d:=g8) (ρ:=[some d]) rfl rfl ?_
 dsimp only [g8,lB]
 k_is
 refine aa (oS h) ?_;k_is
 cases t <;> first | exact q | (k_is;rw [oS h,am];exact q)
theorem bP {t:Dw.D} {d:D} {a b:Int} (h:TD p S t d) (q:Q (.bl (Dw.ax t a b)) S):Ok (evC ag (k+2) bc [d,.int a,.int b] S) Q:=by
 refine aE (d:=fS) (ρ:=[some d,some (.int a),some (.int b)]) rfl rfl ?_
 dsimp only [fS,jH]
 k_is
 refine ⟨rfl,zq h ?_⟩
 k_is
 cases t with
 | int i=>
  obtain rfl:=h.int
  dsimp only [Dw.isW];k_is
  dsimp only [Dw.ax] at q
  cases c:decide (a<=i) with
  | true=>rw [c] at q;exact q
  | false=>rw [c] at q;exact q
 | _=>exact q
theorem gA {t:Dw.D} {d:D} (h:TD p S t d) (q:Q (.bl (Dw.ax t 0 9999)) S):Ok (evC ag (k+3) cp [d] S) Q:=by
 refine aE (d:=fT) (ρ:=[some d]) rfl rfl ?_
 dsimp only [fT,jI]
 k_is
 exact ⟨rfl,bP h q⟩
theorem bB {t:Dw.D} {d:D} {a b:Int} (h:TD p S t d) (q:Q (.bl (Dw.isT t a b)) S):Ok (evC ag (k+1) a8 [d,.int a,.int b] S) Q:=by
 refine aE (d:=g9) (ρ:=[some d,some (.int a),some (.int b)]) rfl rfl ?_
 dsimp only [g9,lD]
 k_is
 refine aa (oS h) ?_;k_is
 cases t with
 | tup ts=>
  obtain ⟨ds,rfl,hs⟩:=h.tup
  rw [show fG Ty.tuple (tyT (Dw.D.tup ts))=true from rfl];k_is
  refine aa (jq hs) ?_;k_is
  dsimp only [Dw.isT] at q
  cases c:decide (a<=(ts.length:Int)) with
  | true=>rw [c] at q;exact q
  | false=>rw [c] at q;exact q
 | _=>exact q
theorem IH {t:Dw.D} {d:D} {n:Nat} (h:TD p S t d) (hn:n<=1000) (q:∀ S',Sm S S'->Q (.bl (Dw.gG n t)) S'):Ok (evC ag (k+3) iI [d,.int n] S) Q:=by
 refine aE (d:=e9) (ρ:=[some d,some (.int n)]) rfl rfl ?_
 dsimp only [e9,iM]
 k_is
 refine ⟨rfl,bB h ?_⟩
 k_is
 cases t with
 | tup ts=>
  obtain ⟨ds,rfl,hs⟩:=h.tup
  rw [Dw.nV]
  by_cases hl:ts.length=n
  ·rw [decide_eq_true hl];k_is
   refine fe hs (by omega) (fun e=>Dw.ax e 1 99) (fun i t d S' _ sm td=>⟨_,rfl,?_⟩) fun S' sm=>?_
   ·k_is
    exact ⟨rfl,bP td ⟨rfl,Sm.refl _⟩⟩
   ·rw [bZ,am]
    have:=q S' sm
    simp only [Dw.gG,decide_eq_true hl,Bool.true_and] at this
    exact this
  ·rw [decide_eq_false hl];k_is
   have:=q S (Sm.refl S)
   simp only [Dw.gG,decide_eq_false hl,Bool.false_and] at this
   exact this
 | _=>exact q S (Sm.refl S)
theorem II {aU:List Dw.D} {d:D} (h:TD p S (.tup aU) d) (hl:aU.length<=4) (hr:aU.all (Dw.gG aU.length)=true) (q:∀ S',Sm S S'->Q (.bl ((Dw.uW aU aU.length).all id)) S'):Ok (evC ag (k+1) bE [d] S) Q:=by
 obtain ⟨ds,rfl,hs⟩:=h.tup
 refine aE (d:=a9) (ρ:=[some (.tup ds),none]) rfl rfl ?_
 dsimp only [a9,bF]
 k_is
 refine aa (jq hs) ?_
 refine ⟨_,rfl,by omega,?_⟩
 k_is
 have hm:(S++[Ob.lst ((List.range aU.length).map fun j=>D.int (Int.ofNat j))])[S.length]?=some (.lst ((List.range aU.length).map fun j=>D.int (Int.ofNat j))):=by rw [List.getElem?_append_right (Nat.le_refl _),Nat.sub_self];rfl
 have sq:∀ S',Sm (S++[Ob.lst ((List.range aU.length).map fun j=>D.int (Int.ofNat j))]) S'->(aj S' S.length).isSome=true:=fun S' sm=>by simp only [aj,sm _ _ hm];rfl
 refine ⟨sq _ (Sm.refl _),?_⟩
 refine (sC hm (by omega) (fun a=>(List.range aU.length).flatMap fun b=>(List.range aU.length).flatMap fun c=>[.bl (Dw.rp aU a b c)]) fun a S1 ha sm1=>⟨_,rfl,?_⟩).mono fun es S2 ⟨ee,sm⟩=>?_
 ·k_is
  refine ⟨sq _ sm1,?_⟩
  refine sC (sm1 _ _ hm) (by omega) _ fun b S2 hb sm2=>⟨_,rfl,?_⟩
  k_is
  refine ⟨sq _ (sm1.trans sm2),?_⟩
  refine sC (sm2 _ _ (sm1 _ _ hm)) (by omega) _ fun c S3 hc sm3=>⟨_,rfl,?_⟩
  k_is
  have hs3:TDs p S3 aU ds:=hs.keep (((Sm.app S _).trans sm1).trans (sm2.trans sm3)).kp
  obtain ⟨ra,xab,e1,e2,e3,_⟩:=Dw.nX hr ha hb
  obtain ⟨ra',xac,e1',e2',e3',_⟩:=Dw.nX hr ha hc
  obtain ⟨rc,xcb,f1,f2,f3,_⟩:=Dw.nX hr hc hb
  rw [e1] at e1'
  cases e1'
  refine bO hs3 e1 fun d1 t1=>?_
  obtain ⟨da,rfl,ha'⟩:=t1.tup
  refine bO ha' e2 fun d2 t2=>?_
  obtain rfl:=t2.int
  refine bO hs3 e1 fun d1 t1=>?_
  obtain ⟨da',rfl,ha''⟩:=t1.tup
  refine bO ha'' e2' fun d2 t2=>?_
  obtain rfl:=t2.int
  refine bO hs3 f1 fun d1 t1=>?_
  obtain ⟨dc,rfl,hc'⟩:=t1.tup
  refine bO hc' f2 fun d2 t2=>?_
  obtain rfl:=t2.int
  k_is
  refine ⟨?_,Sm.refl _⟩
  rw [<-e3,<-e3',<-f3];rfl
 ·subst ee
  have e:((List.range aU.length).flatMap fun a=>(List.range aU.length).flatMap fun b=>(List.range aU.length).flatMap fun c=>[D.bl (Dw.rp aU a b c)])=(Dw.uW aU aU.length).map fun b=>D.bl b:=by
   have one:∀ (l:List Nat) (f:Nat->D),(l.flatMap fun c=>[f c])=l.map f:=fun l f=>by
    induction l with
    | nil=>rfl
    | cons a l ih=>rw [List.flatMap_cons,ih];rfl
   unfold Dw.uW
   simp only [List.map_flatMap,List.map_map,Function.comp_def,one]
  rw [e,bZ,am]
  refine ⟨?_,?_⟩
  ·rw [List.length_map]
   have:=Dw.tB (n:=aU.length) (m:=16) (f:=fun a=>(List.range aU.length).flatMap fun b=>(List.range aU.length).map fun c=>Dw.rp aU a b c) fun a _=>by
    have:=Dw.tB (n:=aU.length) (m:=4) (f:=fun b=>(List.range aU.length).map fun c=>Dw.rp aU a b c) fun b _=>by rw [List.length_map,List.length_range];exact hl
    omega
   unfold Dw.uW
   omega
  ·exact q _ ((Sm.app S _).trans sm)
end Lw
namespace Lw
open PySem Ev
variable {p:Nat} {S:Sto} {k:Nat} {Q:D->Sto->Prop}
theorem C1 {t:Dw.D} {d:D} (h:TD p S t d) (q:∀ S',Sm S S'->Q (.bl (Dw.bR t)) S'):Ok (evC ag (k+4) lu [d] S) Q:=by
 refine aE (d:=hF) (ρ:=[some d]) rfl rfl ?_
 dsimp only [hF,lH]
 k_is
 refine ⟨rfl,bB h ?_⟩
 k_is
 cases t with
 | tup ts=>
  obtain ⟨ds,rfl,hs⟩:=h.tup
  rw [Dw.Fb]
  by_cases hl:1<=ts.length/\ts.length<=4
  ·rw [decide_eq_true hl.1,decide_eq_true hl.2]
   k_is
   refine fe hs (by omega) (Dw.gG ts.length) (fun i t d S' _ sm td=>⟨_,rfl,?_⟩) fun S' sm=>?_
   ·k_is
    have hs':TDs p S' ts ds:=hs.keep sm.kp
    refine aa (jq hs') ?_
    exact ⟨rfl,IH td (by omega) fun S2 sm2=>⟨rfl,sm2⟩⟩
   ·rw [bZ,am]
    k_is
    refine bq (fun hr=>?_) fun hr=>?_
    ·refine ⟨rfl,II (h.keep sm.kp) hl.2 hr fun S2 sm2=>?_⟩
     have:=q S2 (sm.trans sm2)
     simp only [Dw.bR,decide_eq_true hl.1,decide_eq_true hl.2,hr,Bool.true_and] at this
     exact this
    ·have:=q S' sm
     simp only [Dw.bR,decide_eq_true hl.1,decide_eq_true hl.2,hr,Bool.true_and,Bool.false_and] at this
     exact this
  ·have e:(decide (1<=ts.length) && decide (ts.length<=4))=false:=by simpa using hl
   rw [e]
   have:=q S (Sm.refl S)
   simp only [Dw.bR,e,Bool.false_and] at this
   exact this
 | _=>exact q S (Sm.refl S)
theorem sK {t:Dw.D} {d:D} (h:TD p S t d) (q:Q (.bl (Dw.aY t)) S):Ok (evC ag (k+4) iJ [d] S) Q:=by
 refine aE (d:=fb) (ρ:=[some d]) rfl rfl ?_
 dsimp only [fb,iO]
 k_is
 refine ⟨rfl,bB h ?_⟩
 k_is
 cases t with
 | tup ts=>
  obtain ⟨ds,rfl,hs⟩:=h.tup
  rw [Dw.xh]
  by_cases hl:ts.length=2
  ·obtain ⟨b,e,rfl⟩:=Dw.xj hl
   rw [decide_eq_true hl];k_is
   refine bO (i:=0) hs rfl fun d1 t1=>⟨rfl,gA t1 ?_⟩
   k_is
   simp only [Dw.aY] at q
   refine bq (fun h1=>?_) fun h1=>?_
   ·rw [h1] at q
    refine bO (i:=1) hs rfl fun d2 t2=>⟨rfl,gA t2 ?_⟩
    k_is
    refine bq (fun h2=>?_) fun h2=>?_
    ·rw [h2] at q
     refine bO (i:=0) hs rfl fun d1 t1=>bO (i:=1) hs rfl fun d2 t2=>?_
     obtain ⟨i,rfl,_⟩:=Dw.ay h1
     obtain ⟨j,rfl,_⟩:=Dw.ay h2
     obtain rfl:=t1.int
     obtain rfl:=t2.int
     exact q
    ·rw [h2] at q
     exact q
   ·rw [h1] at q
    exact q
  ·rw [decide_eq_false hl]
   rw [Dw.rB hl] at q
   exact q
 | _=>exact q
theorem zr {t:Dw.D} {d:D} (h:TD p S t d) (q:∀ S',Sm S S'->Q (.bl (Dw.bw t)) S'):Ok (evC ag (k+5) jD [d] S) Q:=by
 refine aE (d:=fV) (ρ:=[some d]) rfl rfl ?_
 dsimp only [fV,jK]
 k_is
 refine ⟨rfl,bB h ?_⟩
 k_is
 cases t with
 | tup ts=>
  obtain ⟨ds,rfl,hs⟩:=h.tup
  rw [Dw.Fc]
  by_cases hl:ts.length<=4
  ·rw [decide_eq_true hl]
   k_is
   refine fe hs (by omega) Dw.aY (fun i t d S' _ sm td=>⟨_,rfl,?_⟩) fun S' sm=>?_
   ·k_is
    exact ⟨rfl,sK td ⟨rfl,Sm.refl _⟩⟩
   ·rw [bZ,am]
    k_is
    have hs':TDs p S' ts ds:=hs.keep sm.kp
    cases hr:ts.all Dw.aY with
    | false=>
     k_is
     have:=q S' sm
     simp only [Dw.bw,decide_eq_true hl,hr,Bool.true_and,Bool.false_and] at this
     exact this
    | true=>
     k_is
     refine aa (jq hs') ?_
     k_is
     refine ⟨⟨by decide,by simp only [lim,bAE,decide_eq_true_eq];omega⟩,?_⟩
     have en:((ts.length:Int) - 1).toNat=ts.length - 1:=by omega
     rw [en]
     refine BN (by omega) (fun i=>decide (Dw.jx ts i < Dw.jw ts (i+1))) (fun i S2 hi sm2=>⟨_,rfl,?_⟩) fun S2 sm2=>?_
     ·k_is
      have hs2:TDs p S2 ts ds:=hs'.keep sm2.kp
      obtain ⟨b1,e1,f1,f2,f3⟩:=Dw.tF (i:=i+1) hr (by omega)
      obtain ⟨b0,e0,g1,g2,g3⟩:=Dw.tF (i:=i) hr (by omega)
      have z1:(1:Int)+i=((i+1:Nat):Int):=by omega
      have z2:(1:Int)+i - 1=((i:Nat):Int):=by omega
      rw [z1]
      refine bO hs2 f1 fun d1 t1=>?_
      obtain ⟨x1,rfl,y1⟩:=t1.tup
      refine bO (i:=0) y1 rfl fun d2 t2=>?_
      obtain rfl:=t2.int
      have z3:((i+1:Nat):Int) - 1=((i:Nat):Int):=by omega
      rw [z3]
      refine bO hs2 g1 fun d1 t1=>?_
      obtain ⟨x1,rfl,y1⟩:=t1.tup
      refine bO (i:=1) y1 rfl fun d2 t2=>?_
      obtain rfl:=t2.int
      k_is
      rw [f2,g3]
      exact ⟨rfl,Sm.refl _⟩
     ·rw [bZ,am]
      have:=q S2 (sm.trans sm2)
      simp only [Dw.bw,decide_eq_true hl,hr,Bool.true_and] at this
      have e:(Dw.nU ts).all id=(List.range (ts.length - 1)).all fun i=>decide (Dw.jx ts i < Dw.jw ts (i+1)):=by unfold Dw.nU;rw [List.all_map];rfl
      rw [<-e]
      exact this
  ·rw [decide_eq_false hl]
   k_is
   have:=q S (Sm.refl S)
   simp only [Dw.bw,decide_eq_false hl,Bool.false_and] at this
   exact this
 | _=>exact q S (Sm.refl S)
end Lw
namespace Lw
open PySem Ev
variable {p:Nat} {S:Sto} {k:Nat} {Q:D->Sto->Prop}
theorem IJ {a b c e:Dw.D} {ds:List D} (h:TDs p S [a,b,c,e] ds):∃ w x y z,ds=[w,x,y,z]/\TD p S a w/\TD p S b x/\TD p S c y/\TD p S e z:=by
 obtain ⟨w,_,rfl,h1,h⟩:=h.cons
 obtain ⟨x,_,rfl,h2,h⟩:=h.cons
 obtain ⟨y,_,rfl,h3,h⟩:=h.cons
 obtain ⟨z,_,rfl,h4,h⟩:=h.cons
 obtain rfl:=h.nil
 exact ⟨w,x,y,z,rfl,h1,h2,h3,h4⟩
theorem vY {t:Dw.D} {d:D} (h:TD p S t d) (q:∀ S',Sm S S'->Q (.bl (Dw.bH t)) S'):Ok (evC ag (k+6) jC [d] S) Q:=by
 refine aE (d:=fU) (ρ:=[some d,none,none,none,none]) rfl rfl ?_
 dsimp only [fU,jJ]
 k_is
 refine ⟨rfl,bB h ?_⟩
 k_is
 cases t with
 | tup ts=>
  obtain ⟨ds,rfl,hs⟩:=h.tup
  rw [Dw.xi]
  by_cases hl:ts.length=4
  ·obtain ⟨a,b,c,e,rfl⟩:=Dw.tD hl
   obtain ⟨w,x,y,z,rfl,h1,h2,h3,h4⟩:=IJ hs
   rw [decide_eq_true hl]
   k_is
   refine ⟨rfl,bP h1 ?_⟩
   rw [Dw.DN] at q
   k_is
   cases e1:Dw.ax a 0 8 with
   | false=>rw [e1] at q;exact q S (Sm.refl S)
   | true=>
    rw [e1] at q
    k_is
    refine ⟨rfl,bP h2 ?_⟩
    k_is
    cases e2:Dw.ax b 0 60 with
    | false=>rw [e2] at q;exact q S (Sm.refl S)
    | true=>
     rw [e2] at q
     k_is
     refine ⟨rfl,C1 h3 fun S1 sm=>?_⟩
     k_is
     cases e3:Dw.bR c with
     | false=>rw [e3] at q;exact q S1 sm
     | true=>
      rw [e3] at q
      k_is
      exact ⟨rfl,zr (h4.keep sm.kp) fun S2 sm2=>q S2 (sm.trans sm2)⟩
  ·rw [decide_eq_false hl]
   k_is
   have:=q S (Sm.refl S)
   have e:Dw.bH (.tup ts)=false:=by
    unfold Dw.bH
    split
    ·rename_i he;cases he;exact absurd rfl hl
    ·rfl
   rw [e] at this
   exact this
 | _=>exact q S (Sm.refl S)
theorem uo {r s h' t:Dw.D} {aU:List Dw.D} {m d:D} (hm:TD p S (.tup [r,s,.tup aU,h']) m) (h:TD p S t d) (q:Q (.bl (Dw.ax t 0 ((aU.length:Int) - 1))) S):Ok (evC ag (k+3) jg [m,d] S) Q:=by
 obtain ⟨ds,rfl,hs⟩:=hm.tup
 obtain ⟨w,x,y,z,rfl,h1,h2,h3,h4⟩:=IJ hs
 obtain ⟨rs,rfl,hr⟩:=h3.tup
 refine aE (d:=jj) (ρ:=[some _,some d]) rfl rfl ?_
 dsimp only [jj,nc]
 k_is
 refine bO (i:=2) hs rfl fun d1 t1=>?_
 obtain ⟨rs,rfl,hr⟩:=t1.tup
 refine aa (jq hr) ?_;k_is
 exact ⟨rfl,bP h q⟩
theorem zt {r s h' t:Dw.D} {aU:List Dw.D} {m d:D} (hm:TD p S (.tup [r,s,.tup aU,h']) m) (h:TD p S t d) (q:Q (.bl (Dw.cC aU.length t)) S):Ok (evC ag (k+4) lv [m,d] S) Q:=by
 refine aE (d:=hJ) (ρ:=[some m,some d]) rfl rfl ?_
 dsimp only [hJ,lJ]
 k_is
 refine aa (Kz h) ?_
 k_is
 cases t with
 | non=>exact q
 | tup ts=>
  obtain ⟨ds,rfl,hs⟩:=h.tup
  dsimp only [Gy]
  k_is
  refine ⟨rfl,bB h ?_⟩
  k_is
  rw [Dw.xh]
  by_cases hl:ts.length=2
  ·obtain ⟨b,e,rfl⟩:=Dw.xj hl
   rw [decide_eq_true hl]
   k_is
   refine bO (i:=0) hs rfl fun d1 t1=>⟨rfl,uo hm t1 ?_⟩
   simp only [Dw.cC] at q
   k_is
   cases e1:Dw.ax b 0 ((aU.length:Int) - 1) with
   | false=>rw [e1] at q;exact q
   | true=>
    rw [e1] at q
    k_is
    exact bO (i:=1) hs rfl fun d2 t2=>⟨rfl,gA t2 q⟩
  ·rw [decide_eq_false hl]
   rw [Dw.xq hl] at q
   exact q
 | _=>exact ⟨rfl,bB h (by k_is;exact q)⟩
end Lw
namespace Lw
open PySem Ev
variable {p:Nat} {S:Sto} {k:Nat} {Q:D->Sto->Prop}
theorem nu {t:Dw.D} {d:D} {n:Nat} (h:TD p S t d) (hn:n<=1000) (q:∀ S',Sm S S'->Q (.bl (Dw.cr n t)) S'):Ok (evC ag (k+3) eV [d,.int n] S) Q:=by
 refine aE (d:=eZ) (ρ:=[some d,some (.int n)]) rfl rfl ?_
 dsimp only [eZ,iL]
 k_is
 refine ⟨rfl,bB h ?_⟩
 k_is
 cases t with
 | tup ts=>
  obtain ⟨ds,rfl,hs⟩:=h.tup
  rw [Dw.xr]
  by_cases hl:ts.length<=n
  ·rw [decide_eq_true hl]
   k_is
   refine fe hs (by omega) (fun e=>Dw.ax e 0 ((n:Int) - 1)) (fun i t d S' _ sm td=>⟨_,rfl,?_⟩) fun S' sm=>?_
   ·k_is
    exact ⟨rfl,bP td ⟨rfl,Sm.refl _⟩⟩
   ·rw [bZ,am]
    k_is
    cases hr:ts.all (fun e=>Dw.ax e 0 ((n:Int) - 1)) with
    | false=>
     k_is
     have:=q S' sm
     simp only [Dw.cr,hr,Bool.false_and,Bool.and_false] at this
     exact this
    | true=>
     k_is
     have ei:=oT hr hs
     subst ei
     refine fe (hs.keep sm.kp) (by omega) (fun t=>decide (((List.count (Dw.xn t) (Dw.bh ts):Nat):Int)=1)) (fun i t d S2 ht sm2 td=>⟨_,rfl,?_⟩) fun S2 sm2=>?_
     ·obtain ⟨j,rfl,_⟩:=Dw.ay (List.all_eq_true.mp hr t (List.mem_of_getElem? ht))
      obtain rfl:=td.int
      k_is
      refine ⟨rfl,?_⟩
      rw [yS,am]
      k_is
      exact ⟨rfl,Sm.refl _⟩
     ·rw [bZ,am]
      have:=q S2 (sm.trans sm2)
      have e:(ts.all fun t=>decide (((List.count (Dw.xn t) (Dw.bh ts):Nat):Int)=1))=Dw.ir (Dw.bh ts):=by
       rw [<-Dw.pM,List.all_map]
       conv=>rhs;unfold Dw.bh
       rw [List.all_map];rfl
      simp only [Dw.cr,hr,decide_eq_true hl,Bool.true_and] at this
      rw [e]
      exact this
  ·rw [decide_eq_false hl]
   k_is
   have:=q S (Sm.refl S)
   simp only [Dw.cr,decide_eq_false hl,Bool.false_and] at this
   exact this
 | _=>dsimp only [Dw.isT];k_is;exact q S (Sm.refl S)
theorem LG {a b c e f g i:Dw.D} {ds:List D} (h:TDs p S [a,b,c,e,f,g,i] ds):∃ t u v w x y z,ds=[t,u,v,w,x,y,z]/\TD p S a t/\TD p S b u/\TD p S c v/\TD p S e w/\TD p S f x/\TD p S g y/\TD p S i z:=by
 obtain ⟨t,_,rfl,h1,h⟩:=h.cons
 obtain ⟨u,_,rfl,h2,h⟩:=h.cons
 obtain ⟨v,_,rfl,h3,h⟩:=h.cons
 obtain ⟨w,_,rfl,h4,h⟩:=h.cons
 obtain ⟨x,_,rfl,h5,h⟩:=h.cons
 obtain ⟨y,_,rfl,h6,h⟩:=h.cons
 obtain ⟨z,_,rfl,h7,h⟩:=h.cons
 obtain rfl:=h.nil
 exact ⟨t,u,v,w,x,y,z,rfl,h1,h2,h3,h4,h5,h6,h7⟩
theorem vZ {r s:Int} {h' t:Dw.D} {aU:List Dw.D} {m d:D} (hm:TD p S (.tup [.int r,.int s,.tup aU,h']) m) (h:TD p S t d) (q:∀ S',Sm S S'->Q (.bl (Dw.bg aU.length r s t)) S'):Ok (evC ag (k+4) jE [m,d] S) Q:=by
 obtain ⟨ms,rfl,hms⟩:=hm.tup
 refine aE (d:=fW) (ρ:=[some (.tup ms),some d,none,none,none,none,none,none,none]) rfl rfl ?_
 dsimp only [fW,jL]
 k_is
 refine ⟨rfl,bB h ?_⟩
 k_is
 cases t with
 | tup ts=>
  obtain ⟨ds,rfl,hs⟩:=h.tup
  rw [Dw.Ff]
  by_cases hl:ts.length=7
  ·obtain ⟨tk,tj,tf,tl,tu,tw,tg,rfl⟩:=Dw.xo hl
   obtain ⟨dk,dj,df,dl,du,dw,dg,rfl,h1,h2,h3,h4,h5,h6,h7⟩:=LG hs
   rw [decide_eq_true hl]
   k_is
   have ht:TDs p S [tj,tf,tl,tu] [dj,df,dl,du]:=aN h2 (aN h3 (aN h4 (aN h5 dC)))
   refine fe ht (by simp) (fun e=>Dw.ax e 0 9999) (fun i t d S' _ sm td=>⟨_,rfl,?_⟩) fun S' sm=>?_
   ·k_is
    exact ⟨rfl,gA td ⟨rfl,Sm.refl _⟩⟩
   ·rw [bZ,am]
    k_is
    simp only [Dw.bg] at q
    cases hr:[tj,tf,tl,tu].all (fun e=>Dw.ax e 0 9999) with
    | false=>k_is;rw [hr] at q;exact q S' sm
    | true=>
     k_is
     rw [hr] at q
     have hr':=hr
     simp only [List.all_cons,List.all_nil,Bool.and_true,bAE] at hr'
     obtain ⟨ij,rfl,_⟩:=Dw.ay hr'.1
     obtain ⟨jf,rfl,_⟩:=Dw.ay hr'.2.1
     obtain ⟨il,rfl,_⟩:=Dw.ay hr'.2.2.1
     obtain rfl:=h2.int
     obtain rfl:=h3.int
     obtain rfl:=h4.int
     refine bO (i:=1) (hms.keep sm.kp) rfl fun d1 t1=>?_
     obtain rfl:=t1.int
     k_is
     simp only [Dw.leD,Int.add_zero,Bool.true_and] at q
     cases c1:decide (ij+s<=jf) with
     | false=>k_is;rw [c1] at q;exact q S' sm
     | true=>
      k_is
      rw [c1] at q
      cases c2:decide (jf<=il) with
      | false=>k_is;rw [c2] at q;exact q S' sm
      | true=>
       k_is
       rw [c2] at q
       refine ⟨rfl,uo (hm.keep sm.kp) (h1.keep sm.kp) ?_⟩
       k_is
       cases c3:Dw.ax tk 0 ((aU.length:Int) - 1) with
       | false=>rw [c3] at q;exact q S' sm
       | true=>
        rw [c3] at q
        k_is
        refine ⟨rfl,bP (h6.keep sm.kp) ?_⟩
        k_is
        cases c4:Dw.ax tw 0 99 with
        | false=>rw [c4] at q;exact q S' sm
        | true=>
         rw [c4] at q
         k_is
         refine bO (i:=0) (hms.keep sm.kp) rfl fun d1 t1=>?_
         obtain rfl:=t1.int
         exact ⟨rfl,bP (h7.keep sm.kp) (q S' sm)⟩
  ·rw [decide_eq_false hl]
   k_is
   have:=q S (Sm.refl S)
   rw [Dw.uZ hl] at this
   exact this
 | _=>dsimp only [Dw.isT];k_is;exact q S (Sm.refl S)
theorem sL {r s:Int} {h' t:Dw.D} {aU:List Dw.D} {m d:D} (hm:TD p S (.tup [.int r,.int s,.tup aU,h']) m) (h:TD p S t d) (q:∀ S',Sm S S'->Q (.bl (Dw.bj aU.length r s t)) S'):Ok (evC ag (k+5) gI [m,d] S) Q:=by
 refine aE (d:=dH) (ρ:=[some m,some d]) rfl rfl ?_
 dsimp only [dH,gM]
 k_is
 refine ⟨rfl,bB h ?_⟩
 k_is
 cases t with
 | tup ts=>
  obtain ⟨ds,rfl,hs⟩:=h.tup
  have e7:=Dw.xr ts 7
  rw [show ((7:Nat):Int)=7 from rfl] at e7
  rw [e7]
  by_cases hl:ts.length<=7
  ·rw [decide_eq_true hl]
   k_is
   refine fe hs (by omega) (Dw.bg aU.length r s) (fun i t d S' _ sm td=>⟨_,rfl,?_⟩) fun S' sm=>?_
   ·k_is
    exact ⟨rfl,vZ (hm.keep sm.kp) td fun S2 sm2=>⟨rfl,sm2⟩⟩
   ·rw [bZ,am]
    have:=q S' sm
    simp only [Dw.bj,decide_eq_true hl,Bool.true_and] at this
    exact this
  ·rw [decide_eq_false hl]
   have:=q S (Sm.refl S)
   simp only [Dw.bj,decide_eq_false hl,Bool.false_and] at this
   exact this
 | _=>dsimp only [Dw.isT];k_is;exact q S (Sm.refl S)
theorem zu {n:Nat} {r s:Int} {t:Dw.D} {gs:List Dw.D} {g d:D} (hg:TD p S (.tup gs) g) (ha:gs.all (Dw.bg n r s)=true) (hl:gs.length<=7) (h:TD p S t d) (q:∀ S',Sm S S'->Q (.bl (Dw.cI gs t)) S'):Ok (evC ag (k+4) jF [g,d] S) Q:=by
 obtain ⟨ds,rfl,hs⟩:=hg.tup
 refine aE (d:=fX) (ρ:=[some (.tup ds),some d]) rfl rfl ?_
 dsimp only [fX,jM]
 k_is
 refine aa (jq hs) ?_
 refine ⟨rfl,nu h (by omega) fun S1 sm=>?_⟩
 k_is
 cases hu:Dw.cr gs.length t with
 | false=>
  k_is
  have:=q S1 sm
  have e:Dw.cI gs t=false:=by
   unfold Dw.cI
   split
   ·rw [hu];rfl
   ·rfl
  rw [e] at this
  exact this
 | true=>
  k_is
  cases t with
  | tup fs=>
   obtain ⟨es,rfl,hf⟩:=h.tup
   have hw:fs.all (fun e=>Dw.ax e 0 ((gs.length:Int) - 1))=true:=by
    simp only [Dw.cr,bAE] at hu
    exact hu.2.1
   have ei:=oT hw hf
   subst ei
   refine BO (hs.keep sm.kp) (by omega) (fun i=>decide (Dw.fF gs i=0) || decide (((i:Nat):Int) ∈ Dw.bh fs)) (fun i t d S2 ht sm2 td=>⟨_,ce (Nat.lt_of_lt_of_le (by decide) (Nat.le_refl 4)) (Nat.lt_of_lt_of_le (by decide) (Nat.le_refl 4)),?_⟩) fun S2 sm2=>?_
   ·obtain ⟨a1,a2,a3,a4,a5,a6,g,rfl,hg',_⟩:=Dw.AI ha ht
    obtain ⟨xs,rfl,hx⟩:=td.tup
    k_is
    refine bO (i:=6) hx rfl fun d1 t1=>?_
    obtain rfl:=t1.int
    k_is
    rw [hg']
    cases c:decide (g=0) with
    | true=>k_is;exact ⟨rfl,Sm.refl _⟩
    | false=>
     k_is
     simp only [av,ud,am]
     exact ⟨by simp,Sm.refl _⟩
   ·rw [bZ,am]
    have:=q S2 (sm.trans sm2)
    simp only [Dw.cI,hu,Bool.true_and] at this
    have e:(Dw.AH gs (Dw.bh fs)).all id=(List.range gs.length).all fun i=>decide (Dw.fF gs i=0) || decide (((i:Nat):Int) ∈ Dw.bh fs):=by unfold Dw.AH;rw [List.all_map];rfl
    rw [<-e]
    exact this
  | _=>simp [Dw.cr] at hu
theorem IK {t:Dw.D} {d:D} (h:TD p S t d) (q:∀ S',Sm S S'->Q (.bl (Dw.kC t)) S'):Ok (evC ag (k+7) qt [d] S) Q:=by
 refine aE (d:=lX) (ρ:=[some d,none,none,none,none]) rfl rfl ?_
 dsimp only [lX,qu]
 k_is
 refine ⟨rfl,bB h ?_⟩
 k_is
 cases t with
 | tup ts=>
  obtain ⟨ds,rfl,hs⟩:=h.tup
  rw [Dw.xi]
  by_cases hl:ts.length=4
  ·obtain ⟨tm,ta,tg,tf,rfl⟩:=Dw.tD hl
   obtain ⟨dm,da,dg,df,rfl,h1,h2,h3,h4⟩:=IJ hs
   rw [decide_eq_true hl]
   k_is
   rw [Dw.xt] at q
   refine ⟨rfl,vY h1 fun S1 sm1=>?_⟩
   k_is
   cases em:Dw.bH tm with
   | false=>rw [em] at q;exact q S1 sm1
   | true=>
    rw [em] at q
    obtain ⟨r,s,aU,hs',rfl,_⟩:=Dw.uX em
    k_is
    refine ⟨rfl,zt (h1.keep sm1.kp) (h2.keep sm1.kp) ?_⟩
    k_is
    simp only [Dw.gh,Dw.jX,Dw.nZ] at q
    cases ea:Dw.cC aU.length ta with
    | false=>rw [ea] at q;exact q S1 sm1
    | true=>
     rw [ea] at q
     k_is
     refine ⟨rfl,sL (h1.keep sm1.kp) (h3.keep sm1.kp) fun S2 sm2=>?_⟩
     k_is
     cases eg:Dw.bj aU.length r s tg with
     | false=>rw [eg] at q;exact q S2 (sm1.trans sm2)
     | true=>
      rw [eg] at q
      k_is
      cases tg with
      | tup gs=>
       simp only [Dw.bj,bAE,decide_eq_true_eq] at eg
       exact ⟨rfl,zu (h3.keep (sm1.trans sm2).kp) eg.2 eg.1 (h4.keep (sm1.trans sm2).kp) fun S3 sm3=>q S3 ((sm1.trans sm2).trans sm3)⟩
      | _=>simp [Dw.bj] at eg
  ·rw [decide_eq_false hl]
   k_is
   have:=q S (Sm.refl S)
   rw [Dw.Fe hl] at this
   exact this
 | _=>dsimp only [Dw.isT];k_is;exact q S (Sm.refl S)
end Lw
namespace Lw
open PySem Ev
variable {p:Nat} {S:Sto} {k:Nat} {Q:D->Sto->Prop}
theorem aB {f:Int} (h:Pot p S) (h0:0 < f) (h1:f < 1073741824) (q:∀ (r:Int) S',0<=r->r < f->Dr p S S'->Q (.int r) S'):Ok (evC ag (k+1) ae [.ref p,.int f] S) Q:=by
 obtain ⟨n,e⟩:=h
 have lt:p < S.length:=(List.getElem?_eq_some_iff.mp e).1
 refine aE (d:=hV) (ρ:=[some (.ref p),some (.int f),none]) rfl rfl ?_
 dsimp only [hV,lQ]
 k_is
 have ix:ixS (.ref p) (.int 0) S=some (.int n,S):=by simp only [ixS,ak,aj,e];rfl
 refine aa ix ?_
 k_is
 refine ⟨h0,?_⟩
 k_is
 refine aa ix ?_
 k_is
 refine ⟨⟨h0,h1⟩,?_⟩
 k_is
 refine ⟨S.set p (.lst [.int (n / f)]),by simp only [kQ,e];rfl,?_⟩
 exact q _ _ (Int.emod_nonneg _ (by omega)) (Int.emod_lt_of_pos _ h0) ⟨GG,_,cS lt⟩
theorem C2 {c:Nat} {ns:List Int} (h:S[0]?=some (.frz (ns.map D.int))) (q:∀ i:Int,Q (.int i) S):Ok (evC ag (k+1) gL [.ref 0,.int c] S) Q:=by
 refine aE (d:=dL) (ρ:=[some (.ref 0),some (.int c)]) rfl rfl ?_
 dsimp only [dL,gP]
 k_is
 have ln:ad bx (.ref 0) S=some (.int ns.length,S):=by simp only [ad,ak,aj,h,Option.map_some,bx,List.length_map]
 refine aa ln ?_
 k_is
 refine bq (fun hc=>?_) fun hc=>?_
 ·k_is
  have hc':=of_decide_eq_true hc
  obtain ⟨d,e1,e2⟩:=GI (ds:=ns.map D.int) (i:=c) (by omega) (by rw [List.length_map];omega)
  have ix:ixS (.ref 0) (.int c) S=some (d,S):=by simp only [ixS,ak,aj,h,Option.map_some,e1]
  refine aa ix ?_
  rw [List.getElem?_map] at e2
  cases hn:ns[(c:Int).toNat]? with
  | none=>rw [hn] at e2;cases e2
  | some i=>rw [hn] at e2;cases e2;exact q i
 ·k_is
  exact q 0
theorem IL {c:Int} (q:∀ n:Int,Q (.ref S.length) (S++[.lst [.int n]])):Ok (evC ag (k+1) m9 [.int c] S) Q:=by
 refine aE (d:=jm) (ρ:=[some (.int c),none,none,none]) rfl rfl ?_
 dsimp only [jm,ni]
 k_is
 refine ⟨⟨by decide,by decide,by decide⟩,?_⟩
 k_is
 refine bq (fun _=>?_) fun _=>?_
 ·k_is
  refine ⟨⟨by decide,by decide,by decide⟩,?_⟩
  k_is
  exact q _
 ·k_is
  refine ⟨by decide,?_⟩
  refine lZ (by decide) (fun i ρ S'=>S'=S/\∃ n:Int,∃ u v,ρ=[some (.int c),some (.int n),u,v]) (fun i ρ S' hi ⟨es,n,u,v,er⟩=>?_) (fun ρ S' ⟨es,n,u,v,er⟩=>?_) ⟨rfl,0,none,none,rfl⟩
  ·subst es er
   refine ⟨_,rfl,?_⟩
   k_is
   refine ⟨by decide,?_⟩
   k_is
   refine ⟨kb (by decide) (by decide),?_⟩
   k_is
   refine ⟨uf (by decide) (by decide),by decide,?_⟩
   k_is
   have a1:=Int.emod_nonneg ((c % 2147483629+7919 * (0+(i:Int))+1) * 48271) (show (2147483647:Int) ≠ 0 by decide)
   have a2:=Int.emod_lt_of_pos ((c % 2147483629+7919 * (0+(i:Int))+1) * 48271) (show (0:Int) < 2147483647 by decide)
   refine ⟨kb (by omega) (by omega),?_⟩
   k_is
   refine ⟨kb (by decide) (by decide),?_⟩
   k_is
   refine ⟨by decide,?_⟩
   k_is
   refine ⟨uf (by decide) (by decide),?_⟩
   k_is
   exact ⟨rfl,_,_,_,rfl⟩
  ·subst es er
   k_is
   exact q n
end Lw
namespace Sn
open Ev
structure Sky where
 r:Int
 s:Int
 M:List (List Int)
 H:List (Int × Int)
 ah:Option (Int × Int)
 G:List (List Int)
 F:List Int
noncomputable def gi (G:List (List Int)) (i:Int) (k:Nat):Int:=((G[i.toNat]?).getD []).getD k 0
noncomputable def fns:List (Int × Int)->Int->Int
 | [],m=>m
 | p::l,m=>if p.1<=m/\m < p.2 then p.2 else fns l m
noncomputable def opn:List (Int × Int)->Int->Int
 | [],m=>m
 | p::l,m=>opn l (if p.1<=m/\m < p.2 then p.2 else m)
noncomputable def Ris:Int->List (Int × Int)->Prop
 | _,[]=>True
 | lo,p::l=>lo < p.1/\p.1 < p.2/\Ris p.2 l
theorem iS:∀ {l:List (Int × Int)} {lo m:Int},Ris lo l->m<=lo->opn l m=m
 | [],_,_,_,_=>rfl
 | p::l,lo,m,h,hm=>by
  rw [Ris] at h
  rw [opn,if_neg (by omega)]
  exact iS h.2.2 (by omega)
theorem uq:∀ {l:List (Int × Int)} {lo m:Int},Ris lo l->opn l m=fns l m
 | [],_,_,_=>rfl
 | p::l,lo,m,h=>by
  rw [Ris] at h
  rw [opn,fns]
  split
  ·exact iS h.2.2 (Int.le_refl _)
  ·exact uq h.2.2
section
variable (K:Sky)
noncomputable def jn (g:Int):Int:=gi K.G g 1
noncomputable def gp (a b:Int):Int:=Dw.mg2 K.M a.toNat b.toNat
noncomputable def v0 (ah:Option (Int × Int)) (k:Int):Int:=match ah with
 | none=>0
 | some p=>p.2+gp K p.1 k
noncomputable def bp (ah:Option (Int × Int)) (g:Int):Int:=match ah with
 | none=>gi K.G g 2
 | some p=>if p.2+gp K p.1 (gi K.G g 0) > gi K.G g 2 then p.2+gp K p.1 (gi K.G g 0) else gi K.G g 2
noncomputable def js:List Int:=fj (K.G.map fun g=>g.getD 1 0)
noncomputable def my (place:Nat) (m:Int):Bool:=match (js K)[(K.r+place).toNat]? with
 | some j=>decide (j < m - K.s)
 | none=>false
noncomputable def step (ah:Option (Int × Int)) (g:Int) (place:Nat):Option Int:=if (decide (gi K.G g 3 < opn K.H (bp K ah g)) || my K place (opn K.H (bp K ah g)))=true then none else some (opn K.H (bp K ah g))
noncomputable def aA (t:Int) (p:Int × Int):Bool:=decide (jn K p.1<=t) && decide (t < p.2 - K.s)
noncomputable def wts (L:List (Int × Int)) (t:Int):Nat:=(L.filter (aA K t)).length
noncomputable def fv (L:List (Int × Int)) (g m:Int):List Int:=((jn K g::L.map fun p=>jn K p.1).filter fun t=>decide (jn K g<=t) && decide (t < m - K.s))
noncomputable def l8 (L:List (Int × Int)) (g m:Int):Int:=oo 0 ((fv K L g m).map fun t=>1+(wts K L t:Int))
noncomputable def ic (L:List (Int × Int)) (g m:Int):List Int:=jn K g::(js K).filter fun t=>decide (jn K g < t) && aA K t (g,m)
noncomputable def qD (L:List (Int × Int)) (g m:Int):Int:=dU ((ic K L g m).map fun t=>1+(wts K L t:Int))
noncomputable def qE (L:List (Int × Int)) (g m:Int):Bool:=decide (0 < gi K.G g 6) && (aA K (jn K g) (g,m) && decide (gi K.G g 6 < qD K L g m))
noncomputable def dD (L:List (Int × Int)) (g m:Int):Bool:=decide (0 < gi K.G g 6) && decide (gi K.G g 6 < l8 K L g m)
noncomputable def rn:List Int->Option (Int × Int)->List (Int × Int)->Nat ⊕ List (Int × Int)
 | [],_,L=>.inr L
 | g::os,ah,L=>match step K ah g L.length with
  | none=>.inl L.length
  | some m=>if dD K L g m=true then .inl L.length else rn os (some (gi K.G g 0,m)) (L++[(g,m)])
end
variable {K:Sky}
theorem ur {ns:List Int} (h:ns ≠ []):dU ns ∈ ns:=by
 cases ns with
 | nil=>exact absurd rfl h
 | cons n ns=>exact (iB ns n).1
theorem sM {ns:List Int} {x:Int} (h:x ∈ ns):x<=dU ns:=by
 cases ns with
 | nil=>simp at h
 | cons n ns=>exact (iB ns n).2 x h
theorem sN {A B:List Int} (hA:A ≠ []) (h:∀ x ∈ A,∃ y ∈ B,x<=y):dU A<=dU B:=by
 obtain ⟨y,hy,hle⟩:=h _ (ur hA)
 exact Int.le_trans hle (sM hy)
theorem iT {c:Int} {ns:List Int} (h:ns ≠ []):oo c ns=dU ns:=by
 cases ns with
 | nil=>exact absurd rfl h
 | cons n ns=>rfl
theorem kc {α:Type} {p q:α->Bool}:∀ {l:List α},(∀ x ∈ l,p x=true->q x=true)->(l.filter p).length<=(l.filter q).length
 | [],_=>Nat.le_refl _
 | a::l,h=>by
  have ih:=kc (l:=l) fun x hx=>h x (List.mem_cons_of_mem _ hx)
  have h0:=h a List.mem_cons_self
  rw [List.filter_cons,List.filter_cons]
  split
  ·rename_i c
   rw [if_pos (h0 c),List.length_cons,List.length_cons]
   omega
  ·split
   ·rw [List.length_cons];omega
   ·exact ih
theorem zv {j t:Int} (hj:j<=t):∀ (L:List (Int × Int)),∃ u,(u=j\/∃ p ∈ L,u=jn K p.1)/\j<=u/\u<=t/\∀ p ∈ L,aA K t p=true->jn K p.1<=u
 | []=>⟨j,.inl rfl,Int.le_refl _,hj,fun p hp=>by simp at hp⟩
 | p::L=>by
  obtain ⟨u,h1,h2,h3,h4⟩:=zv hj L
  by_cases hw:aA K t p=true/\u < jn K p.1
  ·refine ⟨jn K p.1,.inr ⟨p,List.mem_cons_self,rfl⟩,by omega,?_,fun q hq hqw=>?_⟩
   ·have:=hw.1
    simp only [aA,bAE,decide_eq_true_eq] at this
    exact this.1
   ·rcases List.mem_cons.mp hq with rfl | hq
    ·exact Int.le_refl _
    ·have:=h4 q hq hqw;omega
  ·refine ⟨u,?_,h2,h3,fun q hq hqw=>?_⟩
   ·rcases h1 with h1 | ⟨q,hq,h1⟩
    ·exact .inl h1
    ·exact .inr ⟨q,List.mem_cons_of_mem _ hq,h1⟩
   ·rcases List.mem_cons.mp hq with rfl | hq
    ·by_cases hlt:u < jn K q.1
     ·exact absurd ⟨hqw,hlt⟩ hw
     ·omega
    ·exact h4 q hq hqw
theorem C3 {L:List (Int × Int)} {g m:Int} (h:jn K g < m - K.s) (hL:∀ p ∈ L,jn K p.1 ∈ js K):qD K L g m=l8 K L g m:=by
 have k0:jn K g ∈ fv K L g m:=by
  unfold fv
  rw [List.mem_filter]
  exact ⟨List.mem_cons_self,by simp [h]⟩
 have kn:(fv K L g m).map (fun t=>1+(wts K L t:Int)) ≠ []:=fun z=>by
  rw [List.map_eq_nil_iff] at z
  rw [z] at k0
  simp at k0
 unfold l8 qD
 rw [iT kn]
 refine Int.le_antisymm (sN (by simp [ic]) fun x hx=>?_) (sN kn fun x hx=>?_)
 ·obtain ⟨t,ht,rfl⟩:=List.mem_map.mp hx
  have ht':jn K g<=t/\t < m - K.s:=by
   rcases List.mem_cons.mp ht with rfl | ht
   ·exact ⟨Int.le_refl _,h⟩
   ·have:=(List.mem_filter.mp ht).2
    simp only [aA,bAE,decide_eq_true_eq] at this
    exact ⟨this.2.1,this.2.2⟩
  obtain ⟨u,h1,h2,h3,h4⟩:=zv (K:=K) ht'.1 L
  refine ⟨1+(wts K L u:Int),List.mem_map.mpr ⟨u,?_,rfl⟩,?_⟩
  ·unfold fv
   refine List.mem_filter.mpr ⟨?_,by simp only [bAE,decide_eq_true_eq];omega⟩
   rcases h1 with rfl | ⟨p,hp,rfl⟩
   ·exact List.mem_cons_self
   ·exact List.mem_cons_of_mem _ (List.mem_map.mpr ⟨p,hp,rfl⟩)
  ·have:wts K L t<=wts K L u:=kc fun p hp hw=>by
    have a:=h4 p hp hw
    simp only [aA,bAE,decide_eq_true_eq] at hw ⊢
    omega
   omega
 ·obtain ⟨t,ht,rfl⟩:=List.mem_map.mp hx
  refine ⟨1+(wts K L t:Int),List.mem_map.mpr ⟨t,?_,rfl⟩,Int.le_refl _⟩
  unfold fv at ht
  obtain ⟨h1,h2⟩:=List.mem_filter.mp ht
  simp only [bAE,decide_eq_true_eq] at h2
  unfold ic
  by_cases e:t=jn K g
  ·rw [e];exact List.mem_cons_self
  ·refine List.mem_cons_of_mem _ (List.mem_filter.mpr ⟨?_,by simp only [aA,bAE,decide_eq_true_eq];omega⟩)
   rcases List.mem_cons.mp h1 with rfl | h1
   ·exact absurd rfl e
   ·obtain ⟨p,hp,rfl⟩:=List.mem_map.mp h1
    exact hL p hp
theorem v5 {L:List (Int × Int)} {g m:Int} (h:¬ jn K g < m - K.s):l8 K L g m=0:=by
 have:fv K L g m=[]:=by
  unfold fv
  rw [List.filter_eq_nil_iff]
  intro t _
  simp only [bAE,decide_eq_true_eq]
  omega
 unfold l8
 rw [this];rfl
theorem C4 {L:List (Int × Int)} {g m:Int} (hL:∀ p ∈ L,jn K p.1 ∈ js K):qE K L g m=dD K L g m:=by
 unfold qE dD
 by_cases h:jn K g < m - K.s
 ·rw [C3 h hL]
  have:aA K (jn K g) (g,m)=true:=by simp only [aA,bAE,decide_eq_true_eq];exact ⟨Int.le_refl _,h⟩
  rw [this,Bool.true_and]
 ·rw [v5 h]
  have:aA K (jn K g) (g,m)=false:=by simp [aA,h]
  rw [this,Bool.false_and]
  by_cases h0:0 < gi K.G g 6
  ·have e:decide (gi K.G g 6 < 0)=false:=by simp;omega
   rw [e]
  ·rw [decide_eq_false h0];rfl
theorem zw {ah:Option (Int × Int)} {g:Int} (h:0<=gi K.G g 2):(if v0 K ah (gi K.G g 0) > gi K.G g 2 then v0 K ah (gi K.G g 0) else gi K.G g 2)=bp K ah g:=by
 cases ah with
 | none=>unfold v0 bp;dsimp only;rw [if_neg (by omega)]
 | some p=>rfl
end Sn
namespace Lw
open PySem Ev Sn
variable {p:Nat} {S:Sto} {k:Nat} {Q:D->Sto->Prop}
theorem ut {ds:List D} {tg:Tg} {b:XS} {ρ:Rho} {Q:Fl->Rho->Sto->Prop} (hl:ds.length<=100000) (I:Nat->Rho->Sto->Prop)
  (step:∀ (i:Nat) d ρ S',ds[i]?=some d->I i ρ S'->∃ ρ1,ao tg d ρ=some ρ1/\OkS (b ρ1 S') fun fl ρ2 S2=>match fl with | .nx=>I (i+1) ρ2 S2 | .ct=>I (i+1) ρ2 S2 | .bk=>Q .nx ρ2 S2 | .rt d=>Q (.rt d) ρ2 S2)
  (q:∀ ρ S',I ds.length ρ S'->Q .nx ρ S') (h0:I 0 ρ S):OkS (dX (nxL ds) tg b LF 0 ρ S) Q:=by
 refine iQ ds.length I (by unfold LF;omega) (fun i ρ S' hi iv=>?_) (fun ρ S' iv=>⟨?_,q ρ S' iv⟩) h0
 ·obtain ⟨ρ1,e2,z⟩:=step i ds[i] ρ S' (gEG hi) iv
  exact ⟨ds[i],ρ1,by show some ds[i]?=_;rw [gEG hi],e2,z⟩
 ·show some ds[ds.length]?=_
  rw [List.getElem?_eq_none (Nat.le_refl _)]
theorem IM {ds:List D} {tg:Tg} {b:XS} {ρ:Rho} {Q:Fl->Rho->Sto->Prop} (hl:ds.length<=100000) (I:Nat->Rho->Sto->Prop)
  (step:∀ (i:Nat) d ρ S',ds[i]?=some d->I i ρ S'->∃ ρ1,ao tg (.tup [.int i,d]) ρ=some ρ1/\OkS (b ρ1 S') fun fl ρ2 S2=>match fl with | .nx=>I (i+1) ρ2 S2 | .ct=>I (i+1) ρ2 S2 | .bk=>Q .nx ρ2 S2 | .rt d=>Q (.rt d) ρ2 S2)
  (q:∀ ρ S',I ds.length ρ S'->Q .nx ρ S') (h0:I 0 ρ S):OkS (dX (p9 ds) tg b LF 0 ρ S) Q:=by
 refine iQ ds.length I (by unfold LF;omega) (fun i ρ S' hi iv=>?_) (fun ρ S' iv=>⟨?_,q ρ S' iv⟩) h0
 ·obtain ⟨ρ1,e2,z⟩:=step i ds[i] ρ S' (gEG hi) iv
  refine ⟨.tup [.int i,ds[i]],ρ1,?_,e2,z⟩
  show enm ds i=_
  unfold enm
  rw [if_pos (by omega),gEG hi];rfl
 ·show enm ds ds.length=_
  unfold enm
  rw [if_pos (Nat.le_refl _),List.getElem?_eq_none (Nat.le_refl _)];rfl
theorem bn {α:Type} {nx:Nxt} {tg:Tg} {c:XA} {ρ:Rho} {Q:List D->Sto->Prop} (l:List α) (E:α->D) (f:α->List D) (hl:l.length<=1000) (hf:∀ a ∈ l,(f a).length<=1)
  (hnx:∀ i S',Sm S S'->nx i S'=some ((l[i]?).map E))
  (step:∀ (i:Nat) a S',l[i]?=some a->Sm S S'->∃ ρ1,ao tg (E a) ρ=some ρ1/\Ok (c ρ1 S') fun es S1=>es=f a/\Sm S' S1) (q:∀ S',Sm S S'->Q (l.flatMap f) S') :
  Ok (aX nx tg c ρ LF 0 S) fun es S2=>es.length<=100000/\Q es S2:=by
 refine (cQ l.length (fun i acc S'=>Sm S S'/\acc=(l.take i).flatMap f) (by unfold LF;omega) (fun i acc S' hi ⟨sm,ea⟩=>?_) (fun acc S' ⟨sm,ea⟩=>?_) ⟨Sm.refl S,by simp⟩).mono fun es S' ⟨sm,ea⟩=>?_
 ·obtain ⟨ρ1,e2,es,S1,e3,e4,sm'⟩:=step i l[i] S' (gEG hi) sm
  refine ⟨E l[i],ρ1,by rw [hnx i S' sm,gEG hi];rfl,e2,es,S1,e3,sm.trans sm',?_⟩
  rw [ea,e4,List.take_succ_eq_append_getElem hi,List.flatMap_append]
  simp
 ·rw [hnx _ S' sm,List.getElem?_eq_none (Nat.le_refl _)];rfl
 ·rw [List.take_length] at ea
  subst ea
  refine ⟨?_,q S' sm⟩
  have:∀ m:List α,(∀ a ∈ m,(f a).length<=1)->(m.flatMap f).length<=m.length:=fun m=>by
   induction m with
   | nil=>intro _;simp
   | cons a m ih=>
    intro h
    rw [List.flatMap_cons,List.length_append,List.length_cons]
    have:=h a List.mem_cons_self
    have:=ih fun b hb=>h b (List.mem_cons_of_mem _ hb)
    omega
  have:=this l hf
  omega
theorem ie {α:Type} {l:List α} {E:α->D}:∀ i S',Sm S S'->nxL (l.map E) i S'=some ((l[i]?).map E):=fun i S' _=>by
 show some (l.map E)[i]?=_
 rw [List.getElem?_map]
theorem dN {α:Type} {n:Nat} {l:List α} {E:α->D} (h:S[n]?=some (.lst (l.map E))):∀ i S',Sm S S'->nxS n i S'=some ((l[i]?).map E):=fun i S' sm=>by
 show (aj S' n).map (fun ds=>ds[i]?)=_
 rw [au (sm _ _ h),Option.map_some,List.getElem?_map]
theorem bC {α:Type} (l:List α) (f:α->D):(l.flatMap fun a=>[f a])=l.map f:=by
 induction l with
 | nil=>rfl
 | cons a l ih=>rw [List.flatMap_cons,ih];rfl
theorem bD {α:Type} (l:List α) (c:α->Bool) (f:α->D):(l.flatMap fun a=>if c a=true then [f a] else [])=(l.filter c).map f:=by
 induction l with
 | nil=>rfl
 | cons a l ih=>
  rw [List.flatMap_cons,ih,List.filter_cons]
  split <;> rfl
noncomputable def aJ (r:List Int):D:=.tup (r.map D.int)
noncomputable def ahE:Option (Int × Int)->D
 | none=>.non
 | some q=>.tup [.int q.1,.int q.2]
noncomputable def meE (K:Sky):D:=.tup [.int K.r,.int K.s,.tup (K.M.map aJ),.tup (K.H.map ac)]
noncomputable def skE (K:Sky):D:=.tup [meE K,ahE K.ah,.tup (K.G.map aJ),.tup (K.F.map D.int)]
structure Vd (K:Sky):Prop where
 r0:0<=K.r
 r8:K.r<=8
 s0:0<=K.s
 s60:K.s<=60
 m0:1<=K.M.length
 m4:K.M.length<=4
 row:∀ r ∈ K.M,r.length=K.M.length
 ris:Ris (-1) K.H
 h4:K.H.length<=4
 ah0:∀ q,K.ah=some q->0<=q.1/\q.1 < K.M.length
 g7:K.G.length<=7
 gl:∀ g ∈ K.G,g.length=7/\0<=g.getD 0 0/\g.getD 0 0 < K.M.length/\0<=g.getD 2 0
variable {K:Sky}
theorem sk0:ixS (skE K) (.int 0) S=some (meE K,S):=rfl
theorem sk1:ixS (skE K) (.int 1) S=some (ahE K.ah,S):=rfl
theorem sk2:ixS (skE K) (.int 2) S=some (.tup (K.G.map aJ),S):=rfl
theorem sk3:ixS (skE K) (.int 3) S=some (.tup (K.F.map D.int),S):=rfl
theorem me0:ixS (meE K) (.int 0) S=some (.int K.r,S):=rfl
theorem me1:ixS (meE K) (.int 1) S=some (.int K.s,S):=rfl
theorem me2:ixS (meE K) (.int 2) S=some (.tup (K.M.map aJ),S):=rfl
theorem me3:ixS (meE K) (.int 3) S=some (.tup (K.H.map ac),S):=rfl
theorem gl7 (V:Vd K) {g:Int} (h0:0<=g) (h1:g < K.G.length):∃ a b c d e f h,K.G[g.toNat]?=some [a,b,c,d,e,f,h]/\gi K.G g 0=a/\gi K.G g 1=b/\gi K.G g 2=c/\gi K.G g 3=d/\gi K.G g 6=h/\0<=a/\a < K.M.length/\0<=c:=by
 have hi:g.toNat < K.G.length:=by omega
 obtain ⟨l7,a0,a1,c0⟩:=V.gl K.G[g.toNat] (List.getElem_mem hi)
 match hr:K.G[g.toNat],l7 with
 | [a,b,c,d,e,f,h],_=>
  have eq:K.G[g.toNat]?=some [a,b,c,d,e,f,h]:=by rw [gEG hi,hr]
  rw [hr] at a0 a1 c0
  refine ⟨a,b,c,d,e,f,h,eq,?_,?_,?_,?_,?_,a0,a1,c0⟩ <;> (unfold gi;rw [eq];rfl)
theorem zx {ds:List D} {i:Int} {d:D} (h0:0<=i) (h:ds[i.toNat]?=some d):ixS (.tup ds) (.int i) S=some (d,S):=by
 obtain ⟨n,rfl⟩:∃ n:Nat,i=(n:Int):=⟨i.toNat,by omega⟩
 exact wU h
theorem gQ {g:Int} {r:List Int} (h0:0<=g) (h:K.G[g.toNat]?=some r):ixS (.tup (K.G.map aJ)) (.int g) S=some (aJ r,S):=zx h0 (by rw [List.getElem?_map,h];rfl)
theorem zy (V:Vd K) {a b:Int} (a0:0<=a) (a1:a < K.M.length) (b0:0<=b) (b1:b < K.M.length):∃ r,ixS (.tup (K.M.map aJ)) (.int a) S=some (aJ r,S)/\ixS (aJ r) (.int b) S=some (.int (gp K a b),S):=by
 have hi:a.toNat < K.M.length:=by omega
 have hr:=V.row K.M[a.toNat] (List.getElem_mem hi)
 have hj:b.toNat < K.M[a.toNat].length:=by omega
 refine ⟨K.M[a.toNat],zx a0 (by rw [List.getElem?_map,gEG hi];rfl),zx b0 ?_⟩
 rw [List.getElem?_map,gEG hj]
 have:gp K a b=K.M[a.toNat][b.toNat]:=by unfold gp Dw.mg2;rw [gEG hi,Option.getD_some,gEG hj];rfl
 rw [this];rfl
end Lw
namespace Lw
open PySem Ev Sn
variable {p:Nat} {S:Sto} {k:Nat} {Q:D->Sto->Prop} {K:Sky}
theorem qF {t u:Bool} {A B:Prop} (ha:t=true->u=true->A) (hb:(t && u)=false->B):wIf t (wIf u A B) B:=by
 cases t with
 | false=>exact hb rfl
 | true=>cases u with
  | true=>exact ha rfl rfl
  | false=>exact hb rfl
theorem kf {α:Type} {l:List α} {i:Nat} {a:α} (h:l[i]?=some a):l.drop i=a::l.drop (i+1):=by
 obtain ⟨hi,e⟩:=List.getElem?_eq_some_iff.mp h
 rw [List.drop_eq_getElem_cons hi,e]
theorem f9 {α:Type} {l:List α} {E:α->D} {i:Nat} {d:D} (h:(l.map E)[i]?=some d):∃ a,l[i]?=some a/\d=E a:=by
 rw [List.getElem?_map] at h
 cases e:l[i]? with
 | none=>rw [e] at h;cases h
 | some a=>rw [e] at h;cases h;exact ⟨a,rfl,rfl⟩
theorem IO {m:Int} (hl:K.H.length<=4) (q:Q (.int (fns K.H m)) S):Ok (evC ag (k+1) dZ [meE K,.int m] S) Q:=by
 refine aE (d:=b9) (ρ:=[some (meE K),some (.int m),none,none]) rfl rfl ?_
 dsimp only [b9,eA]
 k_is
 refine aa me3 ?_
 k_is
 refine ut (by rw [List.length_map];omega) (fun i ρ S'=>S'=S/\fns K.H m=fns (K.H.drop i) m/\∃ u v,ρ=[some (meE K),some (.int m),u,v]) (fun i d ρ S' hd ⟨es,ef,u,v,er⟩=>?_) (fun ρ S' ⟨es,ef,u,v,er⟩=>?_) ⟨rfl,rfl,none,none,rfl⟩
 ·subst es er
  obtain ⟨pr,hp,rfl⟩:=f9 hd
  refine ⟨_,show ao (.tup [.name 2,.name 3]) (.tup [.int pr.1,.int pr.2]) _=_ from ce (by simp) (by simp),?_⟩
  k_is
  rw [kf hp,fns] at ef
  refine qF (fun h1 h2=>?_) fun h=>?_
  ·k_is
   rw [if_pos ⟨of_decide_eq_true h1,of_decide_eq_true h2⟩] at ef
   rw [ef] at q
   exact q
  ·k_is
   rw [if_neg (fun z=>by rw [decide_eq_true z.1,decide_eq_true z.2] at h;cases h)] at ef
   exact ⟨rfl,ef,_,_,rfl⟩
 ·subst es er
  k_is
  rw [List.length_map,List.drop_length,fns] at ef
  rw [ef] at q
  exact q
noncomputable def aO (K:Sky) (L:List (Int × Int)):Option (Int × Int):=match L.getLast? with
 | none=>K.ah
 | some p=>some (gi K.G p.1 0,p.2)
noncomputable def InG (K:Sky) (L:List (Int × Int)):Prop:=∀ p ∈ L,0<=p.1/\p.1 < K.G.length
theorem zz (V:Vd K) {L:List (Int × Int)} {n:Nat} (hn:S[n]?=some (.lst (L.map ac))) (hL:InG K L) (q:Q (ahE (aO K L)) S):Ok (evC ag (k+1) fk [skE K,.ref n] S) Q:=by
 refine aE (d:=cw) (ρ:=[some (skE K),some (.ref n),none,none]) rfl rfl ?_
 dsimp only [cw,fq]
 k_is
 have tr:kF (.ref n) S=some (!(L.map ac).isEmpty,S):=by simp only [kF,au hn]
 refine aa tr ?_
 k_is
 rcases List.eq_nil_or_concat L with rfl | ⟨L',z,rfl⟩
 ·k_is
  exact aa sk1 q
 ·rw [List.concat_eq_append] at hn hL q ⊢
  rw [show (!!((L'++[z]).map ac).isEmpty)=false by simp]
  k_is
  have hz:=hL z (by simp)
  refine aa (oZ (ds:=L'.map ac) (e:=ac z) (by rw [hn,List.map_append];rfl)) ?_
  rw [show ac z = .tup [.int z.1,.int z.2] from rfl]
  k_is
  refine aa sk2 ?_
  obtain ⟨a,b,c,d,e,f,h,eg,e0,_⟩:=gl7 V hz.1 hz.2
  refine aa (gQ hz.1 eg) (aa (show ixS (aJ [a,b,c,d,e,f,h]) (.int 0) S=some (.int a,S) from rfl) ?_)
  k_is
  have:aO K (L'++[z])=some (a,z.2):=by
   unfold aO
   rw [List.getLast?_append]
   simp [e0]
  rw [this] at q
  exact q
theorem C5 (V:Vd K) {a:Option (Int × Int)} {kd:Int} (ha:∀ q,a=some q->0<=q.1/\q.1 < K.M.length) (k0:0<=kd) (k1:kd < K.M.length) (q:Q (.int (v0 K a kd)) S):Ok (evC ag (k+1) m8 [skE K,ahE a,.int kd] S) Q:=by
 refine aE (d:=jk) (ρ:=[some (skE K),some (ahE a),some (.int kd)]) rfl rfl ?_
 dsimp only [jk,ng]
 k_is
 cases a with
 | none=>exact aa (show av .is (ahE none) .non S=some (.bl true,S) from rfl) (by k_is;exact q)
 | some z=>
  refine aa (show av .is (ahE (some z)) .non S=some (.bl false,S) from rfl) ?_
  k_is
  obtain ⟨h0,h1⟩:=ha z rfl
  refine aa (show ixS (ahE (some z)) (.int 1) S=some (.int z.2,S) from rfl) ?_
  refine aa sk0 (aa me2 (aa (show ixS (ahE (some z)) (.int 0) S=some (.int z.1,S) from rfl) ?_))
  obtain ⟨r,g1,g2⟩:=zy (S:=S) V h0 h1 k0 k1
  refine aa g1 (aa g2 ?_)
  k_is
  exact q
theorem l9 (V:Vd K) {z:Int × Int} {t:Int} (h0:0<=z.1) (h1:z.1 < K.G.length) (q:Q (.bl (aA K t z)) S):Ok (evC ag (k+1) eX [skE K,ac z,.int t] S) Q:=by
 refine aE (d:=hR) (ρ:=[some (skE K),some (ac z),some (.int t),none,none]) rfl rfl ?_
 dsimp only [hR,lK]
 rw [show ac z = .tup [.int z.1,.int z.2] from rfl]
 k_is
 refine aa sk2 ?_
 obtain ⟨a,b,c,d,e,f,h,eg,_,e1,_⟩:=gl7 V h0 h1
 refine aa (gQ h0 eg) (aa (show ixS (aJ [a,b,c,d,e,f,h]) (.int 1) S=some (.int b,S) from rfl) ?_)
 k_is
 have ew:aA K t z=(decide (b<=t) && decide (t < z.2 - K.s)):=by unfold aA jn;rw [e1]
 rw [ew] at q
 cases c1:decide (b<=t) with
 | false=>rw [c1] at q;k_is;exact q
 | true=>
  rw [c1] at q
  k_is
  refine aa sk0 (aa me1 ?_)
  k_is
  exact q
theorem IP (V:Vd K) {L:List (Int × Int)} {n:Nat} {t:Int} (hn:S[n]?=some (.lst (L.map ac))) (hL:InG K L) (hl:L.length<=1000) (q:∀ S',Sm S S'->Q (.int (wts K L t)) S'):Ok (evC ag (k+2) fm [skE K,.ref n,.int t] S) Q:=by
 refine aE (d:=cx) (ρ:=[some (skE K),some (.ref n),some (.int t)]) rfl rfl ?_
 dsimp only [cx,ft]
 k_is
 refine ⟨by rw [au hn];rfl,?_⟩
 refine bn L ac (fun z=>if aA K t z=true then [ac z] else []) hl (fun z _=>by split <;> simp) (dN hn) (fun i z S' hz sm=>⟨_,rfl,?_⟩) fun S' sm=>?_
 ·have:=hL z (List.mem_of_getElem? hz)
  k_is
  refine ⟨rfl,l9 V this.1 this.2 ?_⟩
  k_is
  cases aA K t z with
  | true=>k_is;exact ⟨rfl,Sm.refl _⟩
  | false=>k_is;exact ⟨rfl,Sm.refl _⟩
 ·rw [bD]
  refine aa (show bx false ((L.filter (aA K t)).map ac) S'=some (.int (wts K L t),S') by unfold bx wts;rw [List.length_map]) ?_
  k_is
  exact q S' sm
theorem v7 {x:Int} {xs:List Int}:dG ((x::xs).map D.int)=none:=by simp only [List.map_cons,dG,kM]
theorem iU:∀ (xs:List Int),iz (xs.map D.int)=some xs
 | []=>rfl
 | x::xs=>by simp only [List.map_cons,iz,iU xs]
theorem qG {xs:List Int} (h:xs.length < 64):cD false (xs.map D.int)=some ((fj xs).map D.int):=by
 unfold cD
 rw [if_pos rfl]
 cases xs with
 | nil=>rfl
 | cons x xs=>
  simp only [rZ,v7,iU]
  rw [if_pos h]
theorem zA:(js K).length=K.G.length:=by unfold js;rw [(bJ _).length_eq,List.length_map]
theorem qH (V:Vd K) (q:∀ S',Sm S S'->S'[List.length S' - 1]?=some (.lst ((js K).map D.int))->List.length S<=List.length S' - 1->Q (.ref (List.length S' - 1)) S'):Ok (evC ag (k+1) bV [skE K] S) Q:=by
 refine aE (d:=bW) (ρ:=[some (skE K)]) rfl rfl ?_
 dsimp only [bW,dz]
 k_is
 refine aa sk2 ?_
 k_is
 refine bn K.G aJ (fun g=>[.int (g.getD 1 0)]) (by have:=V.g7;omega) (fun _ _=>Nat.le_refl _) ie (fun i g S' hg sm=>⟨_,rfl,?_⟩) fun S' sm=>?_
 ·obtain ⟨l7,_⟩:=V.gl g (List.mem_of_getElem? hg)
  match g,l7 with
  | [a,b,c,d,e,f,h],_=>
   k_is
   exact aa (show ixS (aJ [a,b,c,d,e,f,h]) (.int 1) S'=some (.int b,S') from rfl) ⟨rfl,Sm.refl _⟩
 ·rw [bC]
  refine ⟨_,show cD false (K.G.map fun g=>D.int (g.getD 1 0))=some ((js K).map D.int) from ?_,?_⟩
  ·have:=qG (xs:=K.G.map fun g=>g.getD 1 0) (by rw [List.length_map];have:=V.g7;omega)
   rw [List.map_map] at this
   exact this
  ·have e:List.length (S'++[Ob.lst ((js K).map D.int)]) - 1=List.length S':=by simp
   have sl:List.length S<=List.length S':=by
    cases hz:decide (List.length S<=List.length S') with
    | true=>exact of_decide_eq_true hz
    | false=>
     exfalso
     have hlt:List.length S' < List.length S:=by have:=of_decide_eq_false hz;omega
     have:=sm (List.length S') S[List.length S'] (gEG hlt)
     rw [List.getElem?_eq_none (Nat.le_refl _)] at this
     cases this
   have:=q (S'++[Ob.lst ((js K).map D.int)]) (sm.trans (Sm.app _ _)) (by rw [e];exact aD) (by rw [e];exact sl)
   rw [e] at this
   exact this
end Lw
namespace Lw
open PySem Ev Sn
variable {p:Nat} {S:Sto} {k:Nat} {Q:D->Sto->Prop} {K:Sky}
theorem ga {n:Nat} {ds:List D} {i:Int} {d:D} (hn:S[n]?=some (.lst ds)) (h0:0<=i) (h:ds[i.toNat]?=some d):ixS (.ref n) (.int i) S=some (d,S):=by
 obtain ⟨j,rfl⟩:∃ j:Nat,i=(j:Int):=⟨i.toNat,by omega⟩
 rw [Int.toNat_natCast] at h
 simp only [ixS,ak,au hn,Option.map_some,Ev.tq h]
theorem o7 {n:Nat} {ds:List D} {j:Nat} (hn:S[n]?=some (.lst ds)):slS none (some (j:Int)) (.ref n) S=some (.ref (List.length S),S++[.lst (ds.take j)]):=by
 have:gC ds none (some (j:Int))=ds.take j:=by
  by_cases h:j<=ds.length
  ·exact iu ds j h
  ·unfold gC
   rw [Dw.rA _ _ (by omega),Int.toNat_natCast,Nat.min_eq_right (by omega)]
   show (ds.drop 0).take (ds.length - 0)=ds.take j
   rw [List.drop_zero,List.take_of_length_le (by omega),List.take_of_length_le (by omega)]
 simp only [slS,au hn,this]
theorem o8 {a b:Nat} {xs ys:List D} (ha:S[a]?=some (.lst xs)) (hb:S[b]?=some (.lst ys)) (hl:xs.length+ys.length<=100000):bG .add (.ref a) (.ref b) S=some (.ref (List.length S),S++[.lst (xs++ys)]):=by
 simp only [bG,jU,Fp,ha,hb]
 rw [if_pos hl]
theorem cE {n:Nat} {ds:List D} (hn:S[n]?=some (.lst ds)):ad bx (.ref n) S=some (.int ds.length,S):=by simp only [ad,ak,au hn,Option.map_some,bx]
theorem qI {xs:List Int} (h:xs ≠ []):jV false (xs.map D.int) S=some (.int (dU xs),S):=by
 cases xs with
 | nil=>exact absurd rfl h
 | cons x xs=>unfold jV;rw [iU]
theorem C6 (V:Vd K) {L:List (Int × Int)} {n j:Nat} {z:Int × Int} (hn:S[n]?=some (.lst (L.map ac))) (hz:L[j]?=some z) (hL:InG K L) (hl:L.length<=100) (q:∀ S',Sm S S'->Q (.int (qD K (L.take j) z.1 z.2)) S'):Ok (evC ag (k+3) gK [skE K,.ref n,.int j,.int (jn K z.1)] S) Q:=by
 refine aE (d:=dJ) (ρ:=[some (skE K),some (.ref n),some (.int j),some (.int (jn K z.1)),none,none]) rfl rfl ?_
 dsimp only [dJ,gO]
 have hzG:=hL z (List.mem_of_getElem? hz)
 k_is
 refine aa (o7 hn) ?_
 k_is
 have s1:Sm S (S++[Ob.lst ((L.map ac).take j)]):=Sm.app _ _
 have a1:(S++[Ob.lst ((L.map ac).take j)])[List.length S]?=some (Ob.lst ((L.take j).map ac)):=by rw [aD,List.map_take]
 generalize List.length S=N1 at *
 generalize S++[Ob.lst ((L.map ac).take j)]=S1 at *
 refine ⟨rfl,qH V fun S2 s2 a2 _=>?_⟩
 k_is
 refine ⟨by rw [au a2];rfl,?_⟩
 have hjl:(js K).length<=7:=by rw [zA];exact V.g7
 refine bn (js K) D.int (fun t=>if (decide (jn K z.1 < t) && aA K t z)=true then [D.int t] else []) (by omega) (fun _ _=>by split <;> simp) (dN a2) (fun i t S' ht sm=>⟨_,rfl,?_⟩) fun S3 s3=>?_
 ·k_is
  cases c:decide (jn K z.1 < t) with
  | false=>k_is;exact ⟨rfl,Sm.refl _⟩
  | true=>
   k_is
   have hn':=sm _ _ (s2 _ _ (s1 _ _ hn))
   refine aa (ga hn' (by omega) (show (L.map ac)[((j:Nat):Int).toNat]?=some (ac z) by rw [Int.toNat_natCast,List.getElem?_map,hz];rfl)) ?_
   refine ⟨rfl,l9 V hzG.1 hzG.2 ?_⟩
   k_is
   cases aA K t z with
   | true=>k_is;exact ⟨rfl,Sm.refl _⟩
   | false=>k_is;exact ⟨rfl,Sm.refl _⟩
 ·rw [bD]
  k_is
  have lt3:List.length S3 < List.length (S3++[Ob.lst (((js K).filter fun t=>decide (jn K z.1 < t) && aA K t z).map D.int)]):=by simp
  have a3:(S3++[Ob.lst (((js K).filter fun t=>decide (jn K z.1 < t) && aA K t z).map D.int)])[List.length S3]?=some (Ob.lst (((js K).filter fun t=>decide (jn K z.1 < t) && aA K t z).map D.int)):=aD
  have s4:Sm S3 (S3++[Ob.lst (((js K).filter fun t=>decide (jn K z.1 < t) && aA K t z).map D.int)]):=Sm.app _ _
  have lf:((js K).filter fun t=>decide (jn K z.1 < t) && aA K t z).length<=7:=Nat.le_trans (List.length_filter_le _ _) hjl
  generalize List.length S3=N3 at *
  generalize S3++[Ob.lst (((js K).filter fun t=>decide (jn K z.1 < t) && aA K t z).map D.int)]=S4 at *
  have s5:Sm S4 (S4++[Ob.lst [D.int (jn K z.1)]]):=Sm.app _ _
  refine aa (o8 (xs:=[D.int (jn K z.1)]) aD (s5 _ _ a3) (by rw [List.length_map,List.length_singleton];omega)) ?_
  k_is
  have s6:Sm (S4++[Ob.lst [D.int (jn K z.1)]]) (S4++[Ob.lst [D.int (jn K z.1)]]++[Ob.lst ([D.int (jn K z.1)]++((js K).filter fun t=>decide (jn K z.1 < t) && aA K t z).map D.int)]):=Sm.app _ _
  have a6:(S4++[Ob.lst [D.int (jn K z.1)]]++[Ob.lst ([D.int (jn K z.1)]++((js K).filter fun t=>decide (jn K z.1 < t) && aA K t z).map D.int)])[List.length (S4++[Ob.lst [D.int (jn K z.1)]])]?=some (Ob.lst ((ic K (L.take j) z.1 z.2).map D.int)):=aD
  refine ⟨by rw [au a6];rfl,?_⟩
  have sA:=((((s1.trans s2).trans s3).trans s4).trans s5).trans s6
  have aL:=(((((s2.trans s3).trans s4).trans s5).trans s6)) _ _ a1
  refine bn (ic K (L.take j) z.1 z.2) D.int (fun t=>[D.int (1+(wts K (L.take j) t:Int))]) (by show ((js K).filter fun t=>decide (jn K z.1 < t) && aA K t z).length+1<=1000;omega) (fun _ _=>Nat.le_refl _) (dN a6) (fun i t S' ht sm=>⟨_,rfl,?_⟩) fun S7 s7=>?_
  ·k_is
   refine ⟨rfl,IP V (sm _ _ aL) (fun w hw=>hL w (List.mem_of_mem_take hw)) (by rw [List.length_take];omega) fun S8 s8=>?_⟩
   k_is
   exact ⟨rfl,s8⟩
  ·rw [bC]
   have em:=qI (S:=S7) (xs:=(ic K (L.take j) z.1 z.2).map fun t=>1+(wts K (L.take j) t:Int)) (by unfold ic;simp)
   rw [List.map_map] at em
   exact aa em (by k_is;exact q S7 (sA.trans s7))
theorem C7 (V:Vd K) {L:List (Int × Int)} {n j:Nat} {z:Int × Int} (hn:S[n]?=some (.lst (L.map ac))) (hz:L[j]?=some z) (hL:InG K L) (hl:L.length<=100) (q:∀ S',Sm S S'->Q (.bl (qE K (L.take j) z.1 z.2)) S'):Ok (evC ag (k+4) gJ [skE K,.ref n,.int j] S) Q:=by
 refine aE (d:=dI) (ρ:=[some (skE K),some (.ref n),some (.int j),none,none,none,none,none,none,none]) rfl rfl ?_
 dsimp only [dI,gN]
 have hzG:=hL z (List.mem_of_getElem? hz)
 obtain ⟨a,b,c,d,e,f,h,eg,e0,e1,e2,e3,e6,_⟩:=gl7 V hzG.1 hzG.2
 have hi:=ga hn (show (0:Int)<=(j:Int) by omega) (show (L.map ac)[((j:Nat):Int).toNat]?=some (ac z) by rw [Int.toNat_natCast,List.getElem?_map,hz];rfl)
 k_is
 refine aa sk2 (aa hi (aa (show ixS (ac z) (.int 0) S=some (.int z.1,S) from rfl) (aa (gQ hzG.1 eg) ?_)))
 rw [show aJ [a,b,c,d,e,f,h] = .tup [.int a,.int b,.int c,.int d,.int e,.int f,.int h] from rfl]
 k_is
 have ej:jn K z.1=b:=e1
 have eh:qE K (L.take j) z.1 z.2=(decide (0 < h) && (aA K b z && decide (h < qD K (L.take j) z.1 z.2))):=by unfold qE;rw [e6,ej]
 rw [eh] at q
 cases c1:decide (0 < h) with
 | false=>rw [c1] at q;k_is;exact q S (Sm.refl S)
 | true=>
  rw [c1] at q
  k_is
  refine aa hi ?_
  refine ⟨rfl,l9 V hzG.1 hzG.2 ?_⟩
  k_is
  cases c2:aA K b z with
  | false=>rw [c2] at q;k_is;exact q S (Sm.refl S)
  | true=>
   rw [c2] at q
   k_is
   have rg:=C6 (k:=k) (Q:=fun y S2=>wCx .gt y (.int h) S2 fun d S1=>Q d S1) V hn hz hL hl fun S' sm=>by
    k_is
    exact q S' sm
   rw [ej] at rg
   exact ⟨rfl,rg⟩
theorem C8 (V:Vd K) {j:Nat} {m:Int} (q:∀ S',Sm S S'->Q (.bl (my K j m)) S'):Ok (evC ag (k+2) dn [skE K,.int j,.int m] S) Q:=by
 refine aE (d:=bX) (ρ:=[some (skE K),some (.int j),some (.int m),none,none,none,none,none,none]) rfl rfl ?_
 dsimp only [bX,dA]
 k_is
 refine aa sk0 ?_
 rw [show meE K = .tup [.int K.r,.int K.s,.tup (K.M.map aJ),.tup (K.H.map ac)] from rfl]
 k_is
 refine ⟨rfl,qH V fun S1 s1 a1 _=>?_⟩
 k_is
 refine aa (cE a1) ?_
 k_is
 rw [List.length_map]
 have r0:=V.r0
 have el:my K j m=match (js K)[(K.r+j).toNat]? with | some t=>decide (t < m - K.s) | none=>false:=rfl
 refine bq (fun h=>?_) fun h=>?_
 ·have hlt:(K.r+j).toNat < (js K).length:=by have:=of_decide_eq_true h;omega
  rw [gEG hlt] at el
  k_is
  refine aa (ga a1 (by omega) (show ((js K).map D.int)[(K.r+(j:Int)).toNat]?=some (.int (js K)[(K.r+(j:Int)).toNat]) by rw [List.getElem?_map,gEG hlt];rfl)) ?_
  k_is
  have:=q S1 s1
  rw [el] at this
  exact this
 ·have hge:(js K).length<=(K.r+j).toNat:=by have:=of_decide_eq_false h;omega
  rw [List.getElem?_eq_none hge] at el
  have:=q S1 s1
  rw [el] at this
  exact this
noncomputable def C9:Option Int->D
 | none=>.non
 | some m=>.int m
theorem v8 (V:Vd K) {a:Option (Int × Int)} {g:Int} {j:Nat} (ha:∀ q,a=some q->0<=q.1/\q.1 < K.M.length) (g0:0<=g) (g1:g < K.G.length) (q:∀ S',Sm S S'->Q (C9 (Sn.step K a g j)) S'):Ok (evC ag (k+3) ek [skE K,ahE a,.int g,.int j] S) Q:=by
 refine aE (d:=ca) (ρ:=[some (skE K),some (ahE a),some (.int g),some (.int j),none,none,none,none,none,none,none,none]) rfl rfl ?_
 dsimp only [ca,eB]
 obtain ⟨a0,b,c,d,e,f,h,eg,e0,e1,e2,e3,e6,k0,k1,c0⟩:=gl7 V g0 g1
 k_is
 refine aa sk2 (aa (gQ g0 eg) ?_)
 rw [show aJ [a0,b,c,d,e,f,h] = .tup [.int a0,.int b,.int c,.int d,.int e,.int f,.int h] from rfl]
 k_is
 refine aa sk0 ?_
 refine ⟨rfl,C5 V ha k0 k1 ?_⟩
 k_is
 refine ⟨rfl,IO V.h4 ?_⟩
 k_is
 have em:fns K.H (if v0 K a a0 > c then v0 K a a0 else c)=opn K.H (bp K a g):=by
  have:=zw (K:=K) (ah:=a) (g:=g) (by rw [e2];exact c0)
  rw [e0,e2] at this
  rw [this,uq V.ris]
 rw [em]
 have es:Sn.step K a g j=if (decide (d < opn K.H (bp K a g)) || my K j (opn K.H (bp K a g)))=true then none else some (opn K.H (bp K a g)):=by unfold Sn.step;rw [e3]
 rw [es] at q
 cases c1:decide (d < opn K.H (bp K a g)) with
 | true=>rw [c1] at q;k_is;exact q S (Sm.refl S)
 | false=>
  rw [c1] at q
  k_is
  refine ⟨rfl,C8 V fun S1 s1=>?_⟩
  k_is
  cases c2:my K j (opn K.H (bp K a g)) with
  | true=>rw [c2] at q;k_is;exact q S1 s1
  | false=>rw [c2] at q;k_is;exact q S1 s1
end Lw
namespace Lw
open PySem Ev Sn
variable {p:Nat} {S:Sto} {k:Nat} {Q:D->Sto->Prop} {K:Sky}
theorem Sm.setNew {S S':Sto} {f:Nat} {o:Ob} (h:Sm S S') (hf:S.length<=f):Sm S (S'.set f o):=fun i u e=>by
 have hi:=(List.getElem?_eq_some_iff.mp e).1
 rw [List.getElem?_set_ne (by omega)]
 exact h i u e
theorem IQ {g:Int} (g0:0<=g) (g1:g < K.G.length):jn K g ∈ js K:=by
 have hi:g.toNat < K.G.length:=by omega
 refine (bJ _).mem_iff.mpr (List.mem_map.mpr ⟨K.G[g.toNat],List.getElem_mem hi,?_⟩)
 unfold jn gi
 rw [gEG hi];rfl
theorem qJ (V:Vd K) {L:List (Int × Int)} (hL:InG K L):∀ q,aO K L=some q->0<=q.1/\q.1 < K.M.length:=fun q e=>by
 unfold aO at e
 cases h:L.getLast? with
 | none=>rw [h] at e;exact V.ah0 q e
 | some z=>
  rw [h] at e
  cases e
  have hz:=hL z (List.mem_of_getLast? h)
  obtain ⟨a,b,c,d,e,f,h,eg,e0,e1,e2,e3,e6,k0,k1,c0⟩:=gl7 V hz.1 hz.2
  show 0<=gi K.G z.1 0/\gi K.G z.1 0 < K.M.length
  rw [e0];exact ⟨k0,k1⟩
theorem cT {L:List (Int × Int)} {z:Int × Int}:aO K (L++[z])=some (gi K.G z.1 0,z.2):=by
 unfold aO
 rw [List.getLast?_append];rfl
theorem gW:∀ (os:List Int) (a:Option (Int × Int)) (L:List (Int × Int)) (j:Nat),rn K os a L = .inl j->j < L.length+os.length
 | [],_,_,_,h=>by cases h
 | g::os,a,L,j,h=>by
  rw [rn] at h
  rw [List.length_cons]
  split at h
  ·cases h;omega
  ·split at h
   ·cases h;omega
   ·have:=gW os _ _ j h
    rw [List.length_append,List.length_singleton] at this
    omega
theorem uu:∀ (os:List Int) (a:Option (Int × Int)) (L R:List (Int × Int)),rn K os a L = .inr R->R.length=L.length+os.length
 | [],_,_,_,h=>by cases h;rfl
 | g::os,a,L,R,h=>by
  rw [rn] at h
  rw [List.length_cons]
  split at h
  ·cases h
  ·split at h
   ·cases h
   ·have:=uu os _ _ R h
    rw [List.length_append,List.length_singleton] at this
    omega
structure Ends (K:Sky) (os:List Int) (L:List (Int × Int)):Prop where
 stuck:∀ j,rn K os K.ah [] = .inl j->L.length=j
 lands:∀ R,rn K os K.ah [] = .inr R->L=R
theorem qK (V:Vd K) {os:List Int} (ho:∀ g ∈ os,0<=g/\g < K.G.length) (lo:os.length<=7)
  (q:∀ n L S',Sm S S'->S'[n]?=some (.lst (L.map ac))->List.length S<=n->Ends K os L->Q (.ref n) S'):Ok (evC ag (k+5) cL [skE K,.tup (os.map D.int)] S) Q:=by
 refine aE (d:=bK) (ρ:=[some (skE K),some (.tup (os.map D.int)),none,none,none,none]) rfl rfl ?_
 dsimp only [bK,cM]
 k_is
 refine IM (by rw [List.length_map];omega) (fun i ρ S'=>Sm S S'/\∃ L u v w,ρ=[some (skE K),some (.tup (os.map D.int)),some (.ref (List.length S)),u,v,w]/\S'[List.length S]?=some (.lst (L.map ac))/\L.length=i/\InG K L/\rn K os K.ah []=rn K (os.drop i) (aO K L) L) (fun i d ρ S1 hd ⟨s1,L,u,v,w,er,hn,hi,hL,hr⟩=>?_) (fun ρ S1 ⟨s1,L,u,v,w,er,hn,hi,hL,hr⟩=>?_) ⟨Sm.app _ _,[],none,none,none,rfl,aD,rfl,fun _ h=>(by simp at h),rfl⟩
 ·subst er
  obtain ⟨g,hg,rfl⟩:=f9 hd
  have hgG:=ho g (List.mem_of_getElem? hg)
  have hil:i < os.length:=(List.getElem?_eq_some_iff.mp hg).1
  rw [kf hg,rn,hi] at hr
  refine ⟨_,ce (by simp) (by simp),?_⟩
  k_is
  refine ⟨rfl,zz V hn hL ?_⟩
  refine ⟨rfl,v8 V (qJ V hL) hgG.1 hgG.2 fun S2 s2=>?_⟩
  k_is
  cases hst:Sn.step K (aO K L) g i with
  | none=>
   rw [hst] at hr
   refine aa (show av .is (C9 none) .non S2=some (.bl true,S2) from rfl) ?_
   k_is
   exact q _ L S2 (s1.trans s2) (s2 _ _ hn) (Nat.le_refl _) ⟨fun j e=>by rw [hr] at e;cases e;exact hi,fun R e=>by rw [hr] at e;cases e⟩
  | some m=>
   rw [hst] at hr
   refine aa (show av .is (C9 (some m)) .non S2=some (.bl false,S2) from rfl) ?_
   rw [show C9 (some m) = .int m from rfl]
   k_is
   have hn2:=s2 _ _ hn
   refine ⟨cq hn2,?_⟩
   rw [l3 hn2 (by rw [List.length_map];omega)]
   k_is
   have lt2:List.length S < S2.length:=(List.getElem?_eq_some_iff.mp hn2).1
   have hn3:(S2.set (List.length S) (Ob.lst (L.map ac++[D.tup [D.int g,D.int m]])))[List.length S]?=some (.lst ((L++[(g,m)]).map ac)):=by rw [cS lt2,List.map_append];rfl
   have s3:Sm S (S2.set (List.length S) (Ob.lst (L.map ac++[D.tup [D.int g,D.int m]]))):=Sm.setNew (s1.trans s2) (Nat.le_refl _)
   generalize S2.set (List.length S) (Ob.lst (L.map ac++[D.tup [D.int g,D.int m]]))=S3 at *
   have hL3:InG K (L++[(g,m)]):=fun z hz=>by
    rcases List.mem_append.mp hz with hz | hz
    ·exact hL z hz
    ·rw [List.mem_singleton.mp hz];exact hgG
   have hz3:(L++[(g,m)])[i]?=some (g,m):=by rw [List.getElem?_append_right (by omega),hi,Nat.sub_self];rfl
   have ht3:(L++[(g,m)]).take i=L:=by rw [<-hi,List.take_left]
   refine ⟨rfl,C7 V hn3 hz3 hL3 (by rw [List.length_append,List.length_singleton];omega) fun S4 s4=>?_⟩
   rw [ht3,C4 fun z hz=>IQ (hL z hz).1 (hL z hz).2]
   k_is
   dsimp only at hr
   cases hh:dD K L g m with
   | true=>
    rw [hh,if_pos rfl] at hr
    k_is
    refine aa (o7 (s4 _ _ hn3)) ?_
    k_is
    have a5:(S4++[Ob.lst (((L++[(g,m)]).map ac).take i)])[List.length S4]?=some (.lst (L.map ac)):=by rw [aD,<-List.map_take,ht3]
    have l4:List.length S<=List.length S4:=Nat.le_of_lt (List.getElem?_eq_some_iff.mp (s4 _ _ hn3)).1
    exact q _ L _ ((s3.trans s4).trans (Sm.app _ _)) a5 l4 ⟨fun j e=>by rw [hr] at e;cases e;exact hi,fun R e=>by rw [hr] at e;cases e⟩
   | false=>
    rw [hh,if_neg Bool.false_ne_true] at hr
    k_is
    exact ⟨s3.trans s4,L++[(g,m)],_,_,_,rfl,s4 _ _ hn3,by rw [List.length_append,List.length_singleton];omega,hL3,by rw [cT];exact hr⟩
 ·subst er
  k_is
  rw [List.length_map,List.drop_length,rn] at hr
  exact q _ L S1 s1 hn (Nat.le_refl _) ⟨fun j e=>(by rw [hr] at e;cases e),fun R e=>(by rw [hr] at e;cases e;rfl)⟩
end Lw
namespace Lw
open PySem Ev Sn
variable {p:Nat} {S:Sto} {k:Nat} {Q:D->Sto->Prop} {K:Sky}
theorem o9 (r:List Int):TDs p S (r.map Dw.D.int) (r.map D.int):=by
 induction r with
 | nil=>exact dC
 | cons a r ih=>exact aN ib ih
theorem sO:∀ (M:List (List Int)),TDs p S (Dw.eG M) (M.map aJ)
 | []=>dC
 | r::M=>aN (dM (o9 r)) (sO M)
noncomputable def ahT:Option (Int × Int)->Dw.D
 | none=>.non
 | some q=>.tup [.int q.1,.int q.2]
noncomputable def skT (K:Sky):Dw.D:=.tup [.tup [.int K.r,.int K.s,.tup (Dw.eG K.M),.tup (K.H.map Dw.cX)],ahT K.ah,.tup (Dw.eG K.G),.tup (K.F.map Dw.D.int)]
theorem LH:∀ (a:Option (Int × Int)),TD p S (ahT a) (ahE a)
 | none=>Gm
 | some q=>dM (aN ib (aN ib dC))
theorem LI:TD p S (skT K) (skE K):=dM (aN (dM (aN ib (aN ib (aN (dM (sO K.M)) (aN (dM (qw K.H)) dC))))) (aN (LH K.ah) (aN (dM (sO K.G)) (aN (dM (o9 K.F)) dC))))
theorem zB (hs:Dw.kC (skT K)=true) (q:∀ S',Sm S S'->Q .non S'):Ok (evC ag (k+8) jG [skE K] S) Q:=by
 refine aE (d:=fY) (ρ:=[some (skE K)]) rfl rfl ?_
 dsimp only [fY,jN]
 k_is
 refine ⟨rfl,IK (p:=0) LI fun S1 s1=>?_⟩
 rw [hs]
 k_is
 exact q S1 s1
structure Ord (K:Sky) (os:List Int):Prop where
 nd:os.Nodup
 bd:∀ g ∈ os,0<=g/\g < K.G.length
 ln:os.length=K.G.length
 fx:∃ r,os=K.F++r
 pm:os.Perm ((List.range K.G.length).map fun i=>Int.ofNat i)
theorem iV {n:Nat}:∀ (xs:List Int),eqL (eqD (n+1) S) (xs.map D.int) (xs.map D.int)=some true
 | []=>rfl
 | x::xs=>by
  have e:eqD (n+1) S (D.int x) (D.int x)=some (x == x):=rfl
  rw [List.map_cons,eqL,e,iV xs,beq_self_eq_true];rfl
theorem Da (xs:List Int):av .eq (.tup (xs.map D.int)) (.tup (xs.map D.int)) S=some (.bl true,S):=by
 have:eqD 60 S (.tup (xs.map D.int)) (.tup (xs.map D.int))=eqL (eqD 59 S) (xs.map D.int) (xs.map D.int):=rfl
 simp only [av,eqS]
 rw [this,iV];rfl
theorem Db {xs ys:List D} (h:Ok (av .eq (.tup xs) (.tup ys) S) Q):qx .eq xs (.tup ys) S Q:=by
 cases ys with
 | nil=>rw [ug,am] at h;exact h
 | cons y ys=>exact h
theorem zC (V:Vd K) {os:List Int} (ho:Ord K os) (q:∀ S',Sm S S'->Q (.bl true) S'):Ok (evC ag (k+4) lw [skE K,.tup (os.map D.int)] S) Q:=by
 refine aE (d:=hU) (ρ:=[some (skE K),some (.tup (os.map D.int)),none]) rfl rfl ?_
 dsimp only [hU,lO]
 have g7:=V.g7
 have ei:Dw.bh (os.map Dw.D.int)=os:=by unfold Dw.bh;rw [List.map_map];exact (List.map_congr_left fun x _=>rfl).trans (List.map_id os)
 have hu:Dw.cr K.G.length (.tup (os.map Dw.D.int))=true:=by
  refine Dw.jy ?_ (by rw [ei];exact ho.nd)
  rw [List.all_map,List.all_eq_true]
  intro x hx
  have:=ho.bd x hx
  show (decide (0<=x) && decide (x<=(K.G.length:Int) - 1))=true
  rw [bAE,decide_eq_true_eq,decide_eq_true_eq]
  omega
 k_is
 refine aa sk2 ?_
 refine aa (show ad bx (.tup (K.G.map aJ)) S=some (.int K.G.length,S) by simp only [ad,ak,bx,List.length_map]) ?_
 k_is
 refine ⟨rfl,nu (p:=0) (dM (o9 os)) (by omega) fun S1 s1=>?_⟩
 rw [hu]
 k_is
 refine aa (show ad bx (.tup (os.map D.int)) S1=some (.int os.length,S1) by simp only [ad,ak,bx,List.length_map]) ?_
 k_is
 rw [ho.ln,decide_eq_true (rfl:(K.G.length:Int)=K.G.length)]
 k_is
 refine aa sk3 ?_
 refine aa (show ad bx (.tup (K.F.map D.int)) S1=some (.int K.F.length,S1) by simp only [ad,ak,bx,List.length_map]) ?_
 k_is
 refine aa sk3 ?_
 obtain ⟨r,er⟩:=ho.fx
 have hc:gC (os.map D.int) none (some (K.F.length:Int))=K.F.map D.int:=by
  rw [iu _ _ (by rw [List.length_map,er,List.length_append];omega),<-List.map_take,er,List.take_left]
 rw [hc]
 exact Db (aa (Da K.F) (by k_is;exact q S1 s1))
noncomputable def Res (K:Sky) (os:List Int) (b:Nat) (d:D) (S':Sto):Prop:=match rn K os K.ah [] with
 | .inl j=>d = .tup [.str "stuck", .int j]
 | .inr R=>∃ n,d = .tup [.str "lands", .ref n]/\S'[n]?=some (.lst (R.map ac))/\b<=n
theorem ma (V:Vd K) (hs:Dw.kC (skT K)=true) {os:List Int} (ho:Ord K os) (q:∀ d S',Sm S S'->Res K os (List.length S) d S'->Q d S'):Ok (evC ag (k+9) jh [skE K,.tup (os.map D.int)] S) Q:=by
 refine aE (d:=jl) (ρ:=[some (skE K),some (.tup (os.map D.int)),none]) rfl rfl ?_
 dsimp only [jl,nh]
 have g7:=V.g7
 have ln:=ho.ln
 k_is
 refine ⟨rfl,zB hs fun S1 s1=>?_⟩
 k_is
 refine ⟨rfl,zC (k:=k+4) V ho fun S2 s2=>?_⟩
 k_is
 refine ⟨rfl,qK (k:=k+3) V ho.bd (by omega) fun n L S3 s3 hn hN he=>?_⟩
 k_is
 refine aa (cE hn) ?_
 refine aa (show ad bx (.tup (os.map D.int)) S3=some (.int os.length,S3) by simp only [ad,ak,bx,List.length_map]) ?_
 k_is
 rw [List.length_map]
 have sA:=(s1.trans s2).trans s3
 have lS:List.length S<=List.length S2:=by
  have s12:=s1.trans s2
  by_cases hz:List.length S<=List.length S2
  ·exact hz
  ·exfalso
   have hlt:List.length S2 < List.length S:=by omega
   have:=s12 (List.length S2) S[List.length S2] (gEG hlt)
   rw [List.getElem?_eq_none (Nat.le_refl _)] at this
   cases this
 cases hr:rn K os K.ah [] with
 | inl j=>
  have e1:=he.stuck j hr
  have e2:=gW os _ _ j hr
  rw [List.length_nil,Nat.zero_add] at e2
  rw [decide_eq_true (show (L.length:Int) < os.length by omega)]
  k_is
  refine aa (cE hn) ?_
  k_is
  refine q _ S3 sA ?_
  unfold Res
  rw [hr,List.length_map,e1]
 | inr R=>
  have e1:=he.lands R hr
  have e2:=uu os _ _ R hr
  rw [List.length_nil,Nat.zero_add] at e2
  rw [e1,decide_eq_false (show ¬ (R.length:Int) < os.length by omega)]
  k_is
  refine q _ S3 sA ?_
  unfold Res
  rw [hr]
  exact ⟨n,rfl,by rw [<-e1];exact hn,by omega⟩
end Lw
namespace Lw
open PySem Ev Sn
variable {p:Nat} {S:Sto} {k:Nat} {Q:D->Sto->Prop} {K:Sky}
theorem zD {H:List (Int × Int)} {m:Int} (hl:H.length<=4) (q:Q (.int (opn H m)) S):Ok (evC ag (k+1) ly [.tup (H.map ac),.int m] S) Q:=by
 refine aE (d:=hY) (ρ:=[some (.tup (H.map ac)),some (.int m),none,none]) rfl rfl ?_
 dsimp only [hY,lU]
 k_is
 refine ut (by rw [List.length_map];omega) (fun i ρ S'=>S'=S/\∃ (m':Int) (u v:Option D),opn H m=opn (H.drop i) m'/\ρ=[some (.tup (H.map ac)),some (.int m'),u,v]) (fun i d ρ S' hd ⟨es,m',u,v,ef,er⟩=>?_) (fun ρ S' ⟨es,m',u,v,ef,er⟩=>?_) ⟨rfl,m,none,none,rfl,rfl⟩
 ·subst es er
  obtain ⟨pr,hp,rfl⟩:=f9 hd
  refine ⟨_,show ao (.tup [.name 2,.name 3]) (.tup [.int pr.1,.int pr.2]) _=_ from ce (by simp) (by simp),?_⟩
  k_is
  rw [kf hp,opn] at ef
  refine qF (fun h1 h2=>?_) fun h=>?_
  ·k_is
   rw [if_pos ⟨of_decide_eq_true h1,of_decide_eq_true h2⟩] at ef
   exact ⟨rfl,_,_,_,ef,rfl⟩
  ·k_is
   rw [if_neg (fun z=>by rw [decide_eq_true z.1,decide_eq_true z.2] at h;cases h)] at ef
   exact ⟨rfl,_,_,_,ef,rfl⟩
 ·subst es er
  k_is
  rw [List.length_map,List.drop_length,opn] at ef
  rw [ef] at q
  exact q
theorem nv (V:Vd K) {L:List (Int × Int)} {n:Nat} {t:Int} (hn:S[n]?=some (.lst (L.map ac))) (hL:InG K L) (hl:L.length<=1000) (q:∀ N ds S',Sm S S'->S'[N]?=some (.lst ds)->ds.length=wts K L t->Q (.ref N) S'):Ok (evC ag (k+1) dq [skE K,.ref n,.int t] S) Q:=by
 refine aE (d:=fZ) (ρ:=[some (skE K),some (.ref n),some (.int t)]) rfl rfl ?_
 dsimp only [fZ,jO]
 k_is
 refine ⟨by rw [au hn];rfl,?_⟩
 refine bn L ac (fun z=>if aA K t z=true then [.int z.1] else []) hl (fun z _=>by split <;> simp) (dN hn) (fun i z S' hz sm=>⟨_,show ao (.tup [.name 3,.name 4]) (.tup [.int z.1,.int z.2]) _=_ from ce (by simp) (by simp),?_⟩) fun S' sm=>?_
 ·obtain ⟨h0,h1⟩:=hL z (List.mem_of_getElem? hz)
  obtain ⟨a,b,c,d,e,f,h,eg,_,e1,_⟩:=gl7 V h0 h1
  k_is
  refine aa sk2 (aa (gQ h0 eg) (aa (show ixS (aJ [a,b,c,d,e,f,h]) (.int 1) S'=some (.int b,S') from rfl) ?_))
  k_is
  have ew:aA K t z=(decide (b<=t) && decide (t < z.2 - K.s)):=by unfold aA jn;rw [e1]
  rw [ew]
  cases c1:decide (b<=t) with
  | false=>k_is;exact ⟨rfl,Sm.refl _⟩
  | true=>
   k_is
   refine aa sk0 (aa me1 ?_)
   k_is
   cases c2:decide (t < z.2 - K.s) with
   | true=>k_is;exact ⟨rfl,Sm.refl _⟩
   | false=>k_is;exact ⟨rfl,Sm.refl _⟩
 ·rw [bD]
  k_is
  exact q _ _ _ (sm.trans (Sm.app _ _)) aD (by rw [List.length_map];rfl)
theorem v9 {c:Int} {xs:List Int} {n:Nat} (h:S[n]?=some (.lst (xs.map D.int))):ad (gH c) (.ref n) S=some (.int (oo c xs),S):=by
 simp only [ad,ak,au h,Option.map_some,gH,iU]
theorem zE (V:Vd K) {L:List (Int × Int)} {n:Nat} {g m:Int} (hn:S[n]?=some (.lst (L.map ac))) (hL:InG K L) (hl:L.length<=100) (g0:0<=g) (g1:g < K.G.length) (q:∀ S',Sm S S'->Q (.int (l8 K L g m)) S'):Ok (evC ag (k+2) g6 [skE K,.ref n,.int g,.int m] S) Q:=by
 refine aE (d:=hZ) (ρ:=[some (skE K),some (.ref n),some (.int g),some (.int m),none,none,none]) rfl rfl ?_
 dsimp only [hZ,lV]
 obtain ⟨a,b,c,d,e,f,h,eg,_,e1,_⟩:=gl7 V g0 g1
 have ej:jn K g=b:=e1
 k_is
 refine aa sk2 (aa (gQ g0 eg) (aa (show ixS (aJ [a,b,c,d,e,f,h]) (.int 1) S=some (.int b,S) from rfl) ?_))
 k_is
 have s1:Sm S (S++[Ob.lst [D.int b]]):=Sm.app _ _
 have a1:(S++[Ob.lst [D.int b]])[List.length S]?=some (Ob.lst [D.int b]):=aD
 generalize List.length S=N1 at *
 generalize S++[Ob.lst [D.int b]]=S1 at *
 have hn1:=s1 _ _ hn
 refine ⟨by rw [au hn1];rfl,?_⟩
 refine bn L ac (fun z=>[.int (jn K z.1)]) (by omega) (fun _ _=>Nat.le_refl _) (dN hn1) (fun i z S' hz sm=>⟨_,show ao (.tup [.name 7,.name 8]) (.tup [.int z.1,.int z.2]) _=_ from ce (by simp) (by simp),?_⟩) fun S2 s2=>?_
 ·obtain ⟨h0,h1⟩:=hL z (List.mem_of_getElem? hz)
  obtain ⟨a,b,c,d,e,f,h,eg,_,e1,_⟩:=gl7 V h0 h1
  k_is
  refine aa sk2 (aa (gQ h0 eg) (aa (show ixS (aJ [a,b,c,d,e,f,h]) (.int 1) S'=some (.int b,S') from rfl) ?_))
  exact ⟨by rw [show jn K z.1=b from e1],Sm.refl _⟩
 ·rw [bC]
  have s3:Sm S2 (S2++[Ob.lst (L.map fun z=>D.int (jn K z.1))]):=Sm.app _ _
  refine aa (o8 (s3 _ _ (s2 _ _ a1)) aD (by rw [List.length_map,List.length_singleton];omega)) ?_
  k_is
  have s4:Sm (S2++[Ob.lst (L.map fun z=>D.int (jn K z.1))]) (S2++[Ob.lst (L.map fun z=>D.int (jn K z.1))]++[Ob.lst ([D.int b]++L.map fun z=>D.int (jn K z.1))]):=Sm.app _ _
  have a4:(S2++[Ob.lst (L.map fun z=>D.int (jn K z.1))]++[Ob.lst ([D.int b]++L.map fun z=>D.int (jn K z.1))])[List.length (S2++[Ob.lst (L.map fun z=>D.int (jn K z.1))])]?=some (Ob.lst ((jn K g::L.map fun z=>jn K z.1).map D.int)):=by
   rw [aD,ej,List.map_cons,List.map_map];rfl
  have sA:=((s1.trans s2).trans s3).trans s4
  have hn4:=sA _ _ hn
  generalize List.length (S2++[Ob.lst (L.map fun z=>D.int (jn K z.1))])=N4 at *
  generalize S2++[Ob.lst (L.map fun z=>D.int (jn K z.1))]++[Ob.lst ([D.int b]++L.map fun z=>D.int (jn K z.1))]=S4 at *
  refine ⟨by rw [au a4];rfl,?_⟩
  refine bn (jn K g::L.map fun z=>jn K z.1) D.int (fun t=>if (decide (jn K g<=t) && decide (t < m - K.s))=true then [D.int (1+(wts K L t:Int))] else []) (by rw [List.length_cons,List.length_map];omega) (fun _ _=>by split <;> simp) (dN a4) (fun i t S' ht sm=>⟨_,rfl,?_⟩) fun S5 s5=>?_
  ·k_is
   rw [ej]
   cases c1:decide (b<=t) with
   | false=>k_is;exact ⟨rfl,Sm.refl _⟩
   | true=>
    k_is
    refine aa sk0 (aa me1 ?_)
    k_is
    cases c2:decide (t < m - K.s) with
    | false=>k_is;exact ⟨rfl,Sm.refl _⟩
    | true=>
     k_is
     refine ⟨rfl,nv V (sm _ _ hn4) hL (by omega) fun N ds S6 s6 hN hd=>?_⟩
     refine aa (cE hN) ?_
     k_is
     rw [hd]
     exact ⟨rfl,s6⟩
  ·rw [bD]
   k_is
   have s6:Sm S5 (S5++[Ob.lst ((fv K L g m).map fun t=>D.int (1+(wts K L t:Int)))]):=Sm.app _ _
   have a6:(S5++[Ob.lst ((fv K L g m).map fun t=>D.int (1+(wts K L t:Int)))])[List.length S5]?=some (Ob.lst (((fv K L g m).map fun t=>1+(wts K L t:Int)).map D.int)):=by rw [aD,List.map_map];rfl
   refine aa (v9 a6) ?_
   k_is
   exact q _ ((sA.trans s5).trans s6)
end Lw
namespace Lw
open PySem Ev Sn
variable {p:Nat} {S:Sto} {k:Nat} {Q:D->Sto->Prop} {K:Sky}
theorem uv {ds:List D} (i:Nat) (d:D) (h:ds[i]?=some d):(fun i=>(ds[i]?).getD .non) i=d:=by
 show (ds[i]?).getD .non=d
 rw [h];rfl
theorem ig {i:Int} (h0:0<=i) (h1:i < 1000):lim i=true:=by simp only [lim,bAE,decide_eq_true_eq];omega
theorem IR {n:Nat} {lo:Int} {tg:Tg} {c:XA} {ρ:Rho} {Q:List D->Sto->Prop} (f:Nat->D) (hl:n<=1000) (step:∀ (i:Nat),i < n->∃ ρ1,ao tg (.int (lo+i)) ρ=some ρ1/\Ok (c ρ1 S) fun es S1=>es=[f i]/\S1=S) (q:Q ((List.range n).map f) S) :
  Ok (aX (nxR lo n) tg c ρ LF 0 S) fun es S2=>es.length<=100000/\Q es S2:=by
 refine oW (by omega) (fun i acc S'=>S'=S/\acc=(List.range i).map f) (fun i acc S' hi ⟨e,ea⟩=>?_) (fun es S' ⟨e,ea⟩=>?_) ⟨rfl,rfl⟩
 ·subst e
  obtain ⟨ρ1,e2,es,S1,e3,e4,e5⟩:=step i hi
  exact ⟨ρ1,e2,es,S1,e3,e5,by rw [ea,e4,List.range_succ,List.map_append];rfl⟩
 ·subst e ea
  exact ⟨by rw [List.length_map,List.length_range];omega,q⟩
noncomputable def mid (M:List (List Int)) (n c a:Nat):List (List Int):=(List.range n).map fun i=>if i < a then Dw.aQ M n c i else (M[i]?).getD []
theorem iW {M:List (List Int)} {n c a i:Nat} (hi:i < n):(mid M n c a)[i]?=some (if i < a then Dw.aQ M n c i else (M[i]?).getD []):=by
 unfold mid;rw [List.getElem?_map,List.getElem?_range hi];rfl
theorem zF {M:List (List Int)} {n c:Nat} (h:Dw.Mat n M):mid M n c 0=M:=by
 apply List.ext_getElem?
 intro i
 by_cases hi:i < n
 ·rw [iW hi,if_neg (by omega)]
  have:i < M.length:=by rw [h.len];exact hi
  rw [gEG this];rfl
 ·rw [List.getElem?_eq_none (by unfold mid;rw [List.length_map,List.length_range];omega),List.getElem?_eq_none (by rw [h.len];omega)]
theorem Dc {M:List (List Int)} {n c:Nat}:mid M n c n=(List.range n).map (Dw.aQ M n c):=by
 unfold mid
 refine List.map_congr_left fun i hi=>?_
 rw [if_pos (List.mem_range.mp hi)]
theorem Dd {M:List (List Int)} {n c a:Nat} (ha:a < n):(mid M n c a).set a (Dw.aQ M n c a)=mid M n c (a+1):=by
 apply List.ext_getElem?
 intro i
 by_cases hi:i < n
 ·rw [iW hi]
  by_cases hia:i=a
  ·subst hia
   rw [List.getElem?_set_self (by unfold mid;rw [List.length_map,List.length_range];omega),if_pos (by omega)]
  ·rw [List.getElem?_set_ne (Ne.symm hia),iW hi]
   by_cases h:i < a
   ·rw [if_pos h,if_pos (by omega)]
   ·rw [if_neg h,if_neg (by omega)]
 ·rw [List.getElem?_eq_none (by rw [List.length_set];unfold mid;rw [List.length_map,List.length_range];omega),List.getElem?_eq_none (by unfold mid;rw [List.length_map,List.length_range];omega)]
theorem LJ {M:List (List Int)} {n c a b:Nat} (h:Dw.Mat n M) (hc:c < n) (hb:b < n):Dw.mg2 (mid M n c a) c b=Dw.mg2 M c b:=by
 unfold Dw.mg2
 rw [iW hc]
 split
 ·rw [Option.getD_some,Dw.pL M hb]
  obtain ⟨_,_,_,_,p1,_⟩:=h.at hc hc
  show (if Dw.mg2 M c c+Dw.mg2 M c b < Dw.mg2 M c b then Dw.mg2 M c c+Dw.mg2 M c b else Dw.mg2 M c b)=_
  rw [if_neg (by omega)];rfl
 ·rfl
theorem LK {M:List (List Int)} {n c a b:Nat} (ha:a < n):Dw.mg2 (mid M n c a) a b=Dw.mg2 M a b:=by
 unfold Dw.mg2
 rw [iW ha,if_neg (Nat.lt_irrefl _)];rfl
theorem RowsS.at {rs:List D} {M:List (List Int)} (h:RowsS p S rs M) {n:Nat} {L:Nat} (hL:S[L]?=some (.lst rs)) {i j:Int} (i0:0<=i) (j0:0<=j) (hm:∃ r x,M[i.toNat]?=some r/\r[j.toNat]?=some x/\x=Dw.mg2 M i.toNat j.toNat) :
  ∃ a,ixS (.ref L) (.int i) S=some (.ref a,S)/\ixS (.ref a) (.int j) S=some (.int (Dw.mg2 M i.toNat j.toNat),S):=by
 obtain ⟨r,x,hr,hx,ex⟩:=hm
 obtain ⟨a,ea,na,za⟩:=h.row _ r hr
 exact ⟨a,ga hL i0 ea,ga za j0 (by rw [List.getElem?_map,hx,ex];rfl)⟩
theorem sP {M:List (List Int)} {n i j:Nat} (hl:M.length=n) (hr:∀ r ∈ M,r.length=n) (hi:i < n) (hj:j < n):∃ r x,M[i]?=some r/\r[j]?=some x/\x=Dw.mg2 M i j:=by
 have hi':i < M.length:=by omega
 have hj':j < M[i].length:=by rw [hr _ (List.getElem_mem hi')];exact hj
 refine ⟨M[i],M[i][j],gEG hi',gEG hj',?_⟩
 unfold Dw.mg2
 rw [gEG hi',Option.getD_some,gEG hj'];rfl
theorem zG {M:List (List Int)} {n c a:Nat} (h:Dw.Mat n M):∀ r ∈ mid M n c a,r.length=n:=fun r hr=>by
 unfold mid at hr
 obtain ⟨i,hi,rfl⟩:=List.mem_map.mp hr
 have hi:=List.mem_range.mp hi
 split
 ·exact Dw.pK M n c i
 ·have:i < M.length:=by rw [h.len];exact hi
  rw [gEG this]
  exact h.row _ (List.getElem_mem this)
theorem De {M:List (List Int)} {n c a:Nat}:(mid M n c a).length=n:=by unfold mid;rw [List.length_map,List.length_range]
theorem RowsS.set {rs:List D} {M:List (List Int)} {L i a:Nat} {r:List Int} (h:RowsS p S rs M) (hL:S[L]?=some (.lst rs)) (hi:i < M.length) (na:a ≠ p) (za:S[a]?=some (.lst (r.map D.int))) (nL:a ≠ L) (hz:∀ (i:Nat) r b,M[i]?=some r->rs[i]?=some (D.ref b)->b ≠ L):RowsS p (S.set L (.lst (rs.set i (.ref a)))) (rs.set i (.ref a)) (M.set i r):=by
 refine ⟨by rw [List.length_set,List.length_set];exact h.len,fun j r' hr=>?_⟩
 by_cases hj:j=i
 ·subst hj
  rw [List.getElem?_set_self hi] at hr
  cases hr
  exact ⟨a,by rw [List.getElem?_set_self (by rw [h.len];exact hi)],na,by rw [List.getElem?_set_ne (Ne.symm nL)];exact za⟩
 ·rw [List.getElem?_set_ne (Ne.symm hj)] at hr
  obtain ⟨b,eb,nb,zb⟩:=h.row j r' hr
  have:=hz j r' b hr eb
  exact ⟨b,by rw [List.getElem?_set_ne (Ne.symm hj)];exact eb,nb,by rw [List.getElem?_set_ne (Ne.symm this)];exact zb⟩
theorem Df {rs:List D} {M:List (List Int)} {L n:Nat} (h:RowsS p S rs M) (hL:S[L]?=some (.lst rs)) (hr:∀ r ∈ M,0 < r.length):∀ (i:Nat) r b,M[i]?=some r->rs[i]?=some (D.ref b)->b ≠ L:=fun i r b e1 e2 e3=>by
 obtain ⟨b',e4,_,z⟩:=h.row i r e1
 rw [e2] at e4
 cases e4
 rw [e3,hL] at z
 cases z
 rw [List.getElem?_map] at e2
 cases hx:r[i]? with
 | none=>rw [hx] at e2;cases e2
 | some x=>rw [hx] at e2;cases e2
end Lw
namespace Lw
open PySem Ev Sn L2
variable {p:Nat} {S:Sto} {k:Nat} {Q:D->Sto->Prop} {K:Sky}
theorem Kp.len {p:Nat} {S S':Sto} (h:Ev.Kp p S S') (hp:p < S'.length):S.length<=S'.length:=by
 by_cases hz:S.length<=S'.length
 ·exact hz
 ·exfalso
  have hlt:S'.length < S.length:=by omega
  have:=h S'.length S[S'.length] (by omega) (gEG hlt)
  rw [List.getElem?_eq_none (Nat.le_refl _)] at this
  cases this
theorem uw {n:Nat} {ds:List D} {i:Int} {v:D} (hn:S[n]?=some (.lst ds)) (h0:0<=i) (h1:i.toNat < ds.length):kQ (.ref n) (.int i) v S=some (S.set n (.lst (ds.set i.toNat v))):=by
 have hix:ixN ds.length i=some i.toNat:=by
  unfold ixN
  rw [if_pos (by omega),if_pos (by omega)]
 simp only [kQ,hn,hix,Option.map_some]
theorem zH {n L:Nat} {es:List D} {M:List (List Int)} {u v w x:Option D} {pt:D} (hL:S[L]?=some (.lst es)) (hr:RowsS p S es M) (hm:Dw.Mat n M) (hn:n<=4) (q:∀ S',Sm S S'->Q (.tup (M.map aJ)) S') :
  rW (wSs (evC ag (k+1)) (fN ag) 57 (eY.drop 3)) [some pt,u,v,some (.ref L),w,x] S (out Q):=by
 dsimp only [eY,List.drop]
 k_is
 refine ⟨by rw [au hL];rfl,?_⟩
 have le:es.length=n:=by rw [hr.len,hm.len]
 refine oX n (fun i=>(es[i]?).getD .non) (fun i acc S'=>S'=S/\acc=(M.take i).map aJ) (fun i acc S' hi ⟨e,_⟩=>by subst e;rw [<-le];exact oY hL _ uv) (by omega) (fun i acc S2 hi ⟨e2,ea⟩=>?_) (fun es' S2 ⟨e2,ea⟩=>⟨by rw [ea,List.length_map,List.length_take];omega,?_⟩) ⟨rfl,rfl⟩
 ·subst e2
  have li:i < M.length:=by rw [hm.len];exact hi
  obtain ⟨a,eb,na,za⟩:=hr.row i M[i] (gEG li)
  simp only [eb,Option.getD_some]
  refine ⟨_,rfl,?_⟩
  k_is
  refine aa (show ad b7 (.ref a) S2=some (.tup (M[i].map D.int),S2) by simp only [ad,ak,au za,Option.map_some,b7]) ?_
  refine ⟨rfl,?_⟩
  rw [ea,List.take_succ_eq_append_getElem li,List.map_append];rfl
 ·subst e2
  rw [List.take_of_length_le (by rw [hm.len];exact Nat.le_refl _)] at ea
  subst ea
  refine aa (show b7 false (M.map aJ) S2=some (.tup (M.map aJ),S2) from rfl) ?_
  k_is
  exact q S2 (Sm.refl _)
theorem zI (h:Pot p S) (q:∀ n M S',Dr p S S'->Dw.Mat n M->1<=n->n<=4->Dw.kx n n M->Q (.tup (M.map aJ)) S'):Ok (evC ag (k+2) lx [.ref p] S) Q:=by
 refine aE (d:=hX) (ρ:=[some (.ref p),none,none,none,none,none]) rfl rfl ?_
 dsimp only [hX,eY]
 k_is
 refine ⟨rfl,aB h (by decide) (by decide) fun r0 S0 r1 r2 d0=>?_⟩
 k_is
 refine ⟨rfl,aB d0.pot (by decide) (by decide) fun f0 S1 f1 f2 d01=>?_⟩
 k_is
 have d1:=d0.trans d01
 obtain ⟨n,rfl⟩:∃ n:Nat,r0=(n:Int):=⟨r0.toNat,by omega⟩
 obtain ⟨far,at1,hf⟩:∃ e:Int,atI [D.int 3,D.int 12,D.int 40] f0=some (D.int e)/\0 < e/\e<=40:=by
  have:f0=0\/f0=1\/f0=2:=by omega
  rcases this with rfl | rfl | rfl
  ·exact ⟨3,rfl,by decide,by decide⟩
  ·exact ⟨12,rfl,by decide,by decide⟩
  ·exact ⟨40,rfl,by decide,by decide⟩
 refine ⟨_,at1,?_⟩
 k_is
 have e1:((1:Int)+n).toNat=n+1:=by omega
 have l1:lim (1+(n:Int))=true:=ig (by omega) (by omega)
 refine ⟨l1,?_⟩
 rw [e1]
 refine oW (by omega) (fun i acc S'=>Dr p S1 S'/\∃ M:List (List Int),M.length=i/\RowsS p S' acc M/\∀ r ∈ M,r.length=n+1/\∀ x ∈ r,1<=x/\x<=99) (fun i acc S2 hi ⟨d2,M,lM,rM,bM⟩=>⟨_,rfl,?_⟩) (fun es S2 ⟨d2,M,lM,rM,bM⟩=>⟨by rw [rM.len];omega,?_⟩) ⟨Dr.refl d1.pot,[],rfl,RowsS.nil,fun r hr=>by simp at hr⟩
 ·k_is
  refine ⟨l1,?_⟩
  rw [e1]
  refine oW (by omega) (fun j acc S'=>Dr p S2 S'/\∃ r:List Int,acc=r.map D.int/\r.length=j/\∀ x ∈ r,1<=x/\x<=99) (fun j acc S3 hj ⟨d3,r,ea,lr,br⟩=>⟨_,rfl,?_⟩) (fun es S3 ⟨d3,r,ea,lr,br⟩=>⟨by rw [ea,List.length_map];omega,?_⟩) ⟨Dr.refl d2.pot,[],rfl,rfl,fun x hx=>by simp at hx⟩
  ·k_is
   refine ⟨rfl,aB d3.pot hf.1 (by omega) fun x S4 x1 x2 d4=>?_⟩
   k_is
   refine ⟨d3.trans d4,r++[1+x],by rw [ea,List.map_append];rfl,by simp [lr],fun y hy=>?_⟩
   rcases List.mem_append.mp hy with hy | hy
   ·exact br y hy
   ·simp at hy;omega
  ·subst ea
   k_is
   have lt:=d3.pot.lt
   refine ⟨(d2.trans d3).thenSm (Sm.app _ _),M++[r],by simp [lM],((rM.keep d3.kp).keep (Sm.app _ _).kp).snoc (by omega) aD,fun r' hr'=>?_⟩
   rcases List.mem_append.mp hr' with hr' | hr'
   ·exact bM r' hr'
   ·simp at hr';subst hr';exact ⟨lr,br⟩
 ·have lt2:=d2.pot.lt
  have d3:Dr p S (S2++[Ob.lst es]):=(d1.trans d2).thenSm (Sm.app _ _)
  have r3:RowsS p (S2++[Ob.lst es]) es M:=rM.keep (Sm.app _ _).kp
  have a3:(S2++[Ob.lst es])[S2.length]?=some (Ob.lst es):=aD
  have m3:Dw.Mat (n+1) M:=⟨lM,fun r hr=>(bM r hr).1,fun r hr=>(bM r hr).2⟩
  have lS:S.length<=S2.length:=Kp.len (d1.trans d2).kp lt2
  have ne3:S2.length ≠ p:=by omega
  revert a3 r3 d3
  generalize S2++[Ob.lst es]=S3
  generalize S2.length=L at *
  intro d3 r3 a3
  k_is
  refine ⟨l1,?_⟩
  rw [e1]
  refine lZ (by omega) (fun c ρ S'=>Dr p S S'/\∃ es M u v,ρ=[some (.ref p),some (.int (1+(n:Int))),some (.int far),some (.ref L),u,v]/\S'[L]?=some (.lst es)/\RowsS p S' es M/\Dw.Mat (n+1) M/\Dw.kx (n+1) c M) (fun c ρ S4 hc ⟨d4,es,M,u,v,er,hL,hr,hm,tr⟩=>?_) (fun ρ S4 ⟨d4,es,M,u,v,er,hL,hr,hm,tr⟩=>?_) ⟨d3,es,M,none,none,rfl,a3,r3,m3,fun _ _ _ _ _ h=>absurd h (Nat.not_lt_zero _)⟩
  ·subst er
   refine ⟨_,rfl,?_⟩
   k_is
   refine ⟨l1,?_⟩
   rw [e1]
   refine lZ (by omega) (fun a ρ S'=>Dr p S S'/\∃ es v,ρ=[some (.ref p),some (.int (1+(n:Int))),some (.int far),some (.ref L),some (.int (0+(c:Int))),v]/\S'[L]?=some (.lst es)/\RowsS p S' es (mid M (n+1) c a)) (fun a ρ S5 ha ⟨d5,es,v,er,hL,hr⟩=>?_) (fun ρ S5 ⟨d5,es,v,er,hL,hr⟩=>?_) ⟨d4,es,v,rfl,hL,by rw [zF hm];exact hr⟩
   ·subst er
    refine ⟨_,rfl,?_⟩
    k_is
    refine ⟨l1,?_⟩
    rw [e1]
    have ml:=@De M (n+1) c a
    have mr:=zG (c:=c) (a:=a) hm
    have z0:∀ x:Nat,((0:Int)+x).toNat=x:=fun x=>by omega
    refine IR (fun b=>.int (if Dw.mg2 M a c+Dw.mg2 M c b < Dw.mg2 M a b then Dw.mg2 M a c+Dw.mg2 M c b else Dw.mg2 M a b)) (by omega) (fun b hb=>⟨_,rfl,?_⟩) ?_
    ·k_is
     obtain ⟨x1,i1,j1⟩:=RowsS.at (n:=0) hr hL (i:=0+(a:Int)) (j:=0+(b:Int)) (by omega) (by omega) (by rw [z0,z0];exact sP ml mr ha hb)
     obtain ⟨x2,i2,j2⟩:=RowsS.at (n:=0) hr hL (i:=0+(a:Int)) (j:=0+(c:Int)) (by omega) (by omega) (by rw [z0,z0];exact sP ml mr ha hc)
     obtain ⟨x3,i3,j3⟩:=RowsS.at (n:=0) hr hL (i:=0+(c:Int)) (j:=0+(b:Int)) (by omega) (by omega) (by rw [z0,z0];exact sP ml mr hc hb)
     rw [z0,z0,LK ha] at j1 j2
     rw [z0,z0,LJ hm hc hb] at j3
     refine aa i1 (aa j1 (aa i2 (aa j2 (aa i3 (aa j3 ?_)))))
     k_is
     exact ⟨rfl,rfl⟩
    ·have ef:((List.range (n+1)).map fun b=>D.int (if Dw.mg2 M a c+Dw.mg2 M c b < Dw.mg2 M a b then Dw.mg2 M a c+Dw.mg2 M c b else Dw.mg2 M a b))=(Dw.aQ M (n+1) c a).map D.int:=by unfold Dw.aQ;rw [List.map_map];rfl
     rw [ef]
     k_is
     have lt5:=d5.pot.lt
     have hL':=Sm.app S5 [Ob.lst ((Dw.aQ M (n+1) c a).map D.int)] _ _ hL
     have lL:L < S5.length:=(List.getElem?_eq_some_iff.mp hL).1
     have le:es.length=n+1:=by rw [hr.len,ml]
     refine ⟨_,uw hL' (by omega) (by omega),?_⟩
     k_is
     rw [z0]
     have hr':RowsS p (S5++[Ob.lst ((Dw.aQ M (n+1) c a).map D.int)]) es (mid M (n+1) c a):=hr.keep (Sm.app _ _).kp
     have hr2:=RowsS.set (i:=a) (a:=S5.length) (r:=Dw.aQ M (n+1) c a) hr' hL' (by omega) (by omega) aD (by omega) (Df (n:=0) hr' hL' fun r hh=>by rw [mr r hh];omega)
     rw [Dd ha] at hr2
     have kA:Ev.Kp p S ((S5++[Ob.lst ((Dw.aQ M (n+1) c a).map D.int)]).set L (.lst (es.set a (.ref S5.length)))):=(d5.kp.trans (Sm.app _ _).kp).setNew lS
     refine ⟨⟨kA,((Dr.sm d5.pot (Sm.app _ _)).pot).setNe ne3⟩,_,_,rfl,?_,hr2⟩
     rw [cS (by rw [List.length_append];omega)]
   ·subst er
    k_is
    rw [Dc] at hr
    exact ⟨d5,es,_,_,_,rfl,hL,hr,Dw.xm hm hc,Dw.xk hm hc tr (Dw.AG hm hc)⟩
  ·subst er
   have tail:=zH (k:=k) (p:=p) (Q:=Q) (pt:=.ref p) (u:=some (.int (1+(n:Int)))) (v:=some (.int far)) (w:=u) (x:=v) hL hr hm (by omega) fun S' sm=>q (n+1) M S' (d4.thenSm sm) hm (by omega) (by omega) tr
   dsimp only [eY,List.drop] at tail
   exact tail
end Lw
namespace Lw
open PySem Ev Sn L2
variable {p:Nat} {S:Sto} {k:Nat} {Q:D->Sto->Prop} {K:Sky}
theorem qL:∀ {H:List (Int × Int)} {lo x y:Int},Ris lo H->lo < x->(∀ q ∈ H,q.2 < x)->x < y->Ris lo (H++[(x,y)])
 | [],lo,x,y,_,h1,_,h3=>⟨h1,h3,trivial⟩
 | q::H,lo,x,y,h,h1,h2,h3=>by
  rw [Ris] at h
  exact ⟨h.1,h.2.1,qL h.2.2 (h2 q List.mem_cons_self) (fun r hr=>h2 r (List.mem_cons_of_mem _ hr)) h3⟩
theorem pc:∀ {H:List (Int × Int)} {lo:Int} {q:Int × Int},Ris lo H->q ∈ H->lo < q.1/\q.1 < q.2
 | q'::H,lo,q,h,hq=>by
  rw [Ris] at h
  rcases List.mem_cons.mp hq with rfl | hq
  ·exact ⟨h.1,h.2.1⟩
  ·have:=pc h.2.2 hq
   omega
theorem qM:∀ {H:List (Int × Int)} {lo:Int},Ris lo H->∀ (i:Nat) q q',H[i]?=some q->H[i+1]?=some q'->q.2 < q'.1
 | q0::H,lo,h,0,q,q',e1,e2=>by
  rw [Ris] at h
  cases e1
  rw [List.getElem?_cons_succ] at e2
  exact (pc h.2.2 (List.mem_of_getElem? e2)).1
 | q0::H,lo,h,i+1,q,q',e1,e2=>by
  rw [Ris] at h
  rw [List.getElem?_cons_succ] at e1 e2
  exact qM h.2.2 i q q' e1 e2
theorem wa {H:List (Int × Int)} (h:Ris (-1) H) (hb:∀ q ∈ H,q.2<=9999) (hl:H.length<=4):Dw.bw (.tup (H.map Dw.cX))=true:=by
 refine Dw.Good.shuts (b:=9999) ⟨fun q hq=>?_,qM h⟩ (by decide) hl
 have:=pc h hq
 have:=hb q hq
 omega
structure MeOk (r s:Int) (M:List (List Int)) (H:List (Int × Int)):Prop where
 r0:0<=r
 r8:r<=8
 s0:0<=s
 s60:s<=60
 mat:Dw.Mat M.length M
 m1:1<=M.length
 m4:M.length<=4
 tri:Dw.kx M.length M.length M
 ris:Ris (-1) H
 h4:H.length<=4
 hb:∀ q ∈ H,q.2<=9999
theorem sQ (h:Pot p S) (q:∀ r s M H S',Dr p S S'->MeOk r s M H->Q (.tup [.int r,.int s,.tup (M.map aJ),.tup (H.map ac)]) S'):Ok (evC ag (k+3) iK [.ref p] S) Q:=by
 refine aE (d:=fc) (ρ:=[some (.ref p),none,none,none,none]) rfl rfl ?_
 dsimp only [fc,iP]
 have lt:=h.lt
 k_is
 have d0:Dr p S (S++[Ob.lst []]):=Dr.sm h (Sm.app _ _)
 have a0:(S++[Ob.lst []])[List.length S]?=some (Ob.lst (([]:List (Int × Int)).map ac)):=aD
 have nN:List.length S ≠ p:=by omega
 generalize S++[Ob.lst []]=S0 at *
 refine ⟨rfl,aB d0.pot (by decide) (by decide) fun i0 S1 i1 i2 d1=>?_⟩
 k_is
 obtain ⟨fr,at1,hf⟩:∃ e:Int,atI [D.int 1,D.int 5] i0=some (D.int e)/\0 < e/\e<=5:=by
  have:i0=0\/i0=1:=by omega
  rcases this with rfl | rfl
  ·exact ⟨1,rfl,by decide,by decide⟩
  ·exact ⟨5,rfl,by decide,by decide⟩
 refine ⟨_,at1,?_⟩
 refine ⟨rfl,aB d1.pot hf.1 (by omega) fun n0 S2 n1 n2 d2=>?_⟩
 k_is
 obtain ⟨n,rfl⟩:∃ n:Nat,n0=(n:Int):=⟨n0.toNat,by omega⟩
 refine ⟨ig (by omega) (by omega),?_⟩
 rw [Int.toNat_natCast]
 have d02:=(d0.trans d1).trans d2
 have a2:=(d1.trans d2).kp _ _ nN a0
 refine lZ (by omega) (fun i ρ S'=>Dr p S S'/\∃ (H:List (Int × Int)) (b:Int) (u v:Option D),ρ=[some (.ref p),some (.ref (List.length S)),some (.int b),u,v]/\S'[List.length S]?=some (.lst (H.map ac))/\H.length=i/\Ris (-1) H/\(∀ q ∈ H,q.2 < b)/\0<=b/\b<=60 * i) (fun i ρ S3 hi ⟨d3,H,b,u,v,er,hn,hl,hr,hm,b0,b1⟩=>?_) (fun ρ S3 ⟨d3,H,b,u,v,er,hn,hl,hr,hm,b0,b1⟩=>?_) ⟨d02,[],0,none,none,rfl,a2,rfl,trivial,fun q hq=>by simp at hq,by decide,by decide⟩
 ·subst er
  refine ⟨_,rfl,?_⟩
  k_is
  refine ⟨rfl,aB d3.pot (by decide) (by decide) fun x S4 x1 x2 d4=>?_⟩
  k_is
  have hn4:=d4.kp _ _ nN hn
  refine ⟨cq hn4,?_⟩
  refine ⟨rfl,aB d4.pot (by decide) (by decide) fun y S5 y1 y2 d5=>?_⟩
  k_is
  have hn5:=d5.kp _ _ nN hn4
  rw [l3 hn5 (by rw [List.length_map];omega)]
  k_is
  have lt5:List.length S < S5.length:=(List.getElem?_eq_some_iff.mp hn5).1
  have f5:(S5.set (List.length S) (Ob.lst (H.map ac++[D.tup [D.int (b+x),D.int (b+x+1+y)]])))[List.length S]?=some (Ob.lst (H.map ac++[D.tup [D.int (b+x),D.int (b+x+1+y)]])):=cS lt5
  refine aa (oZ f5) (aa (show ixS (D.tup [D.int (b+x),D.int (b+x+1+y)]) (.int 1) (S5.set (List.length S) (Ob.lst (H.map ac++[D.tup [D.int (b+x),D.int (b+x+1+y)]])))=some (.int (b+x+1+y),_) from rfl) ?_)
  k_is
  refine ⟨⟨((d3.kp.trans d4.kp).trans d5.kp).setNew (Nat.le_refl _),d5.pot.setNe nN⟩,H++[(b+x,b+x+1+y)],_,_,_,rfl,by rw [f5,List.map_append];rfl,by rw [List.length_append,List.length_singleton];omega,qL hr (by omega) (fun q hq=>by have:=hm q hq;omega) (by omega),fun q hq=>?_,by omega,by omega⟩
  rcases List.mem_append.mp hq with hq | hq
  ·have:=hm q hq;omega
  ·rw [List.mem_singleton.mp hq];show b+x+1+y < b+x+1+y+1;omega
 ·subst er
  k_is
  refine ⟨rfl,aB d3.pot (by decide) (by decide) fun i3 S4 j3 k3 d4=>?_⟩
  k_is
  obtain ⟨r,at3,h3⟩:∃ e:Int,atI [D.int 8,D.int 1,D.int 2,D.int 3,D.int 0] i3=some (D.int e)/\0<=e/\e<=8:=by
   have:i3=0\/i3=1\/i3=2\/i3=3\/i3=4:=by omega
   rcases this with rfl | rfl | rfl | rfl | rfl
   ·exact ⟨8,rfl,by decide,by decide⟩
   ·exact ⟨1,rfl,by decide,by decide⟩
   ·exact ⟨2,rfl,by decide,by decide⟩
   ·exact ⟨3,rfl,by decide,by decide⟩
   ·exact ⟨0,rfl,by decide,by decide⟩
  refine ⟨_,at3,?_⟩
  refine ⟨rfl,aB d4.pot (by decide) (by decide) fun i5 S5 j5 k5 d5=>?_⟩
  k_is
  obtain ⟨s,at5,h5⟩:∃ e:Int,atI [D.int 0,D.int 2,D.int 9,D.int 60] i5=some (D.int e)/\0<=e/\e<=60:=by
   have:i5=0\/i5=1\/i5=2\/i5=3:=by omega
   rcases this with rfl | rfl | rfl | rfl
   ·exact ⟨0,rfl,by decide,by decide⟩
   ·exact ⟨2,rfl,by decide,by decide⟩
   ·exact ⟨9,rfl,by decide,by decide⟩
   ·exact ⟨60,rfl,by decide,by decide⟩
  refine ⟨_,at5,?_⟩
  refine ⟨rfl,zI d5.pot fun m M S6 d6 hM m1 m4 tr=>?_⟩
  have hn6:=((d4.trans d5).trans d6).kp _ _ nN hn
  refine aa (show ad b7 (.ref (List.length S)) S6=some (.tup (H.map ac),S6) by simp only [ad,ak,au hn6,Option.map_some,b7]) ?_
  k_is
  obtain rfl:=hM.len
  exact q r s M H S6 (d3.trans ((d4.trans d5).trans d6)) ⟨h3.1,h3.2,h5.1,h5.2,hM,m1,m4,tr,hr,by omega,fun q hq=>by have:=hm q hq;omega⟩
end Lw
namespace Lw
open PySem Ev Sn L2
variable {p:Nat} {S S':Sto} {k:Nat} {Q:D->Sto->Prop} {K:Sky}
structure Gs (p N hi:Nat) (S:Sto) (es:List D) (G:List (List Int)):Prop where
 pN:p < N
 at_:S[N]?=some (.lst es)
 len:es.length=G.length
 row:∀ (i:Nat) g,G[i]?=some g->∃ a,es[i]?=some (D.ref a)/\N < a/\a < hi/\S[a]?=some (.lst (g.map D.int))
 inj:∀ (i j a:Nat),es[i]?=some (D.ref a)->es[j]?=some (D.ref a)->i=j
section
variable {N hi hi':Nat} {es:List D} {G:List (List Int)}
theorem Gs.keep (h:Gs p N hi S es G) (kp:Ev.Kp p S S'):Gs p N hi S' es G:=by
 have pN:=h.pN
 refine ⟨h.pN,kp _ _ (by omega) h.at_,h.len,fun i g hg=>?_,h.inj⟩
 obtain ⟨a,e,n1,n2,z⟩:=h.row i g hg
 exact ⟨a,e,n1,n2,kp _ _ (by omega) z⟩
theorem Gs.up (h:Gs p N hi S es G) (hh:hi<=hi'):Gs p N hi' S es G:=by
 refine ⟨h.pN,h.at_,h.len,fun i g hg=>?_,h.inj⟩
 obtain ⟨a,e,n1,n2,z⟩:=h.row i g hg
 exact ⟨a,e,n1,by omega,z⟩
theorem Gs.other (h:Gs p N hi S es G) {f:Nat} {o:Ob} (hf:hi<=f) (hN:N < hi):Gs p N hi (S.set f o) es G:=by
 refine ⟨h.pN,by rw [List.getElem?_set_ne (by omega)];exact h.at_,h.len,fun i g hg=>?_,h.inj⟩
 obtain ⟨a,e,n1,n2,z⟩:=h.row i g hg
 exact ⟨a,e,n1,n2,by rw [List.getElem?_set_ne (by omega)];exact z⟩
theorem Gs.snoc (h:Gs p N S.length S es G) {g:List Int}:Gs p N (S.length+1) ((S++[Ob.lst (g.map D.int)]).set N (.lst (es++[D.ref S.length]))) (es++[D.ref S.length]) (G++[g]):=by
 have lN:N < S.length:=(List.getElem?_eq_some_iff.mp h.at_).1
 have old:∀ (i a:Nat),es[i]?=some (D.ref a)->a < S.length:=fun i a e=>by
  have hi:i < G.length:=by rw [<-h.len];exact (List.getElem?_eq_some_iff.mp e).1
  obtain ⟨b,e2,n1,n2,_⟩:=h.row i G[i] (gEG hi)
  rw [e] at e2
  cases e2
  exact n2
 refine ⟨h.pN,by rw [cS (by rw [List.length_append];omega)],by rw [List.length_append,List.length_append,h.len];rfl,fun i g' hg=>?_,fun i j a e1 e2=>?_⟩
 ·by_cases hi:i < G.length
  ·rw [List.getElem?_append_left hi] at hg
   obtain ⟨a,e,n1,n2,z⟩:=h.row i g' hg
   exact ⟨a,by rw [List.getElem?_append_left (by rw [h.len];exact hi)];exact e,n1,by omega,by rw [List.getElem?_set_ne (by omega),List.getElem?_append_left n2];exact z⟩
  ·have hl:=(List.getElem?_eq_some_iff.mp hg).1
   rw [List.length_append,List.length_singleton] at hl
   obtain rfl:i=G.length:=by omega
   rw [List.getElem?_append_right (Nat.le_refl _),Nat.sub_self] at hg
   cases hg
   exact ⟨S.length,by rw [List.getElem?_append_right (by rw [h.len];omega),h.len,Nat.sub_self];rfl,lN,by omega,by rw [List.getElem?_set_ne (by omega),aD]⟩
 ·have key:∀ (i:Nat),(es++[D.ref S.length])[i]?=some (D.ref a)->(i < es.length/\es[i]?=some (D.ref a))\/(i=es.length/\a=S.length):=fun i e=>by
   by_cases hi:i < es.length
   ·rw [List.getElem?_append_left hi] at e;exact .inl ⟨hi,e⟩
   ·have hl:=(List.getElem?_eq_some_iff.mp e).1
    rw [List.length_append,List.length_singleton] at hl
    obtain rfl:i=es.length:=by omega
    rw [List.getElem?_append_right (Nat.le_refl _),Nat.sub_self] at e
    cases e
    exact .inr ⟨rfl,rfl⟩
  rcases key i e1 with ⟨h1,z1⟩ | ⟨h1,z1⟩ <;> rcases key j e2 with ⟨h2,z2⟩ | ⟨h2,z2⟩
  ·exact h.inj i j a z1 z2
  ·have:=old i a z1;omega
  ·have:=old j a z2;omega
  ·omega
theorem Gs.setRow (h:Gs p N hi S es G) {i a:Nat} {g:List Int} (hi':i < G.length) (ea:es[i]?=some (D.ref a)):Gs p N hi (S.set a (.lst (g.map D.int))) es (G.set i g):=by
 obtain ⟨b,eb,n1,n2,zb⟩:=h.row i G[i] (gEG hi')
 rw [ea] at eb
 cases eb
 have la:=(List.getElem?_eq_some_iff.mp zb).1
 refine ⟨h.pN,by rw [List.getElem?_set_ne (by omega)];exact h.at_,by rw [List.length_set];exact h.len,fun j g' hg=>?_,h.inj⟩
 by_cases hj:j=i
 ·subst hj
  rw [List.getElem?_set_self hi'] at hg
  cases hg
  exact ⟨a,ea,n1,n2,cS la⟩
 ·rw [List.getElem?_set_ne (Ne.symm hj)] at hg
  obtain ⟨c,ec,m1,m2,zc⟩:=h.row j g' hg
  have:c ≠ a:=fun z=>hj (by rw [z] at ec;exact h.inj j i a ec ea)
  exact ⟨c,ec,m1,m2,by rw [List.getElem?_set_ne (Ne.symm this)];exact zc⟩
end
noncomputable def GB (n:Nat) (r s:Int) (g:List Int):Prop:=∃ kd jo fi la du we ri:Int,g=[kd,jo,fi,la,du,we,ri]/\0<=kd/\kd < n/\0<=jo/\jo+s<=fi/\fi<=la/\la<=9999/\0<=du/\du<=9999/\0<=we/\we<=99/\0<=ri/\ri<=r
structure SkOk (K:Sky):Prop where
 me:MeOk K.r K.s K.M K.H
 g7:K.G.length<=7
 gb:∀ g ∈ K.G,GB K.M.length K.r K.s g
 nd:K.F.Nodup
 bd:∀ x ∈ K.F,0<=x/\x < K.G.length
 rg:∀ (j:Nat) g,K.G[j]?=some g->g.getD 6 0=0\/(j:Int) ∈ K.F
 ah:∀ q,K.ah=some q->0<=q.1/\q.1 < K.M.length/\0<=q.2/\q.2<=9999
theorem SkOk.vd (h:SkOk K):Vd K:=by
 refine ⟨h.me.r0,h.me.r8,h.me.s0,h.me.s60,h.me.m1,h.me.m4,h.me.mat.row,h.me.ris,h.me.h4,fun q e=>⟨(h.ah q e).1,(h.ah q e).2.1⟩,h.g7,fun g hg=>?_⟩
 obtain ⟨kd,jo,fi,la,du,we,ri,rfl,h1,h2,h3,h4,_⟩:=h.gb g hg
 have:=h.me.s0
 refine ⟨rfl,h1,h2,?_⟩
 show 0<=fi
 omega
theorem SkOk.sky (h:SkOk K):Dw.kC (skT K)=true:=by
 have lm:(Dw.eG K.G).length=K.G.length:=by unfold Dw.eG;rw [List.length_map]
 have lM:(Dw.eG K.M).length=K.M.length:=by unfold Dw.eG;rw [List.length_map]
 have em:Dw.bH (.tup [.int K.r,.int K.s,.tup (Dw.eG K.M),.tup (K.H.map Dw.cX)])=true:=by
  rw [Dw.DN,Dw.xl h.me.mat h.me.m1 h.me.m4 h.me.tri,wa h.me.ris h.me.hb h.me.h4]
  have:=h.me.r0;have:=h.me.r8;have:=h.me.s0;have:=h.me.s60
  simp only [Dw.ax,Bool.and_true,bAE,decide_eq_true_eq]
  omega
 have ea:Dw.cC K.M.length (ahT K.ah)=true:=by
  cases hq:K.ah with
  | none=>rfl
  | some q=>
   have:=h.ah q hq
   simp only [ahT,Dw.cC,Dw.ax,bAE,decide_eq_true_eq]
   omega
 have ha:(Dw.eG K.G).all (Dw.bg K.M.length K.r K.s)=true:=by
  unfold Dw.eG
  rw [List.all_map,List.all_eq_true]
  intro g hg
  obtain ⟨kd,jo,fi,la,du,we,ri,rfl,h1⟩:=h.gb g hg
  have:=h.me.s0
  show Dw.bg K.M.length K.r K.s (.tup ([kd,jo,fi,la,du,we,ri].map Dw.D.int))=true
  simp only [List.map_cons,List.map_nil,Dw.bg,Dw.ax,Dw.leD,List.all_cons,List.all_nil,bAE,decide_eq_true_eq,Bool.and_true]
  omega
 have ei:Dw.bh (K.F.map Dw.D.int)=K.F:=by unfold Dw.bh;rw [List.map_map];exact (List.map_congr_left fun x _=>rfl).trans (List.map_id K.F)
 have hu:Dw.cr K.G.length (.tup (K.F.map Dw.D.int))=true:=by
  refine Dw.jy ?_ (by rw [ei];exact h.nd)
  rw [List.all_map,List.all_eq_true]
  intro x hx
  have:=h.bd x hx
  show (decide (0<=x) && decide (x<=(K.G.length:Int) - 1))=true
  rw [bAE,decide_eq_true_eq,decide_eq_true_eq]
  omega
 unfold skT
 rw [Dw.xt,em]
 simp only [Dw.gh,Dw.jX,Dw.nZ,lM,ea,Bool.true_and,Dw.bj,ha,lm,decide_eq_true h.g7,Dw.tupOf,Dw.cI,hu,ei]
 unfold Dw.AH
 rw [List.all_map,List.all_eq_true]
 intro i hi
 rw [lm] at hi
 have hi':=List.mem_range.mp hi
 obtain ⟨kd,jo,fi,la,du,we,ri,eg,_⟩:=h.gb K.G[i] (List.getElem_mem hi')
 have er:Dw.fF (Dw.eG K.G) i=ri:=by
  unfold Dw.fF Dw.eG
  rw [List.getElem?_map,gEG hi',eg]
  rfl
 show (decide (Dw.fF (Dw.eG K.G) i=0) || decide (((i:Nat):Int) ∈ K.F))=true
 rw [er,Bool.or_eq_true,decide_eq_true_eq,decide_eq_true_eq]
 have:=h.rg i _ (gEG hi')
 rw [eg] at this
 exact this
end Lw
namespace Lw
open PySem Ev Sn L2
variable {p:Nat} {S S':Sto} {k:Nat} {Q:D->Sto->Prop} {K:Sky}
noncomputable def meL (r s:Int) (M:List (List Int)) (H:List (Int × Int)):D:=.tup [.int r,.int s,.tup (M.map aJ),.tup (H.map ac)]
theorem Dg {r s mo:Int} {M G:List (List Int)} {H:List (Int × Int)} {F:List Int} {es:List D} {N Nf hi:Nat} {u4 u5 u6 u7 u8 u9 u10 u11 u13:Option D} (h:Pot p S) (gs:Gs p N hi S es G) (hf:S[Nf]?=some (.lst (F.map D.int))) (nf:Nf ≠ p) (me:MeOk r s M H) (g7:G.length<=7)
  (q:∀ a S',Dr p S S'->(∀ z:Int × Int,a=some z->0<=z.1/\z.1 < M.length/\0<=z.2/\z.2<=9999)->Q (skE ⟨r,s,M,H,a,G,F⟩) S') :
  rW (wSs (evC ag (k+3)) (fN ag) 55 (gy.drop 5)) [some (.ref p),some (.int mo),some (meL r s M H),some (.ref N),u4,u5,u6,u7,u8,u9,u10,u11,some (.ref Nf),u13,none] S (out Q):=by
 dsimp only [gy,List.drop]
 have m1:=me.m1
 have m4:=me.m4
 k_is
 refine aa (show ixS (meL r s M H) (.int 2) S=some (.tup (M.map aJ),S) from rfl) ?_
 refine aa (show ad bx (.tup (M.map aJ)) S=some (.int M.length,S) by simp only [ad,ak,bx,List.length_map]) ?_
 refine ⟨rfl,aB h (by omega) (by omega) fun x S1 x1 x2 d1=>?_⟩
 refine ⟨rfl,aB d1.pot (by decide) (by decide) fun y S2 y1 y2 d2=>?_⟩
 refine ⟨rfl,aB d2.pot (by decide) (by decide) fun z S3 z1 z2 d3=>?_⟩
 k_is
 have d:=(d1.trans d2).trans d3
 obtain ⟨a,ea,ha⟩:∃ a:Option (Int × Int),atI [D.non,D.tup [D.int x,D.int y]] z=some (ahE a)/\∀ q,a=some q->0<=q.1/\q.1 < M.length/\0<=q.2/\q.2<=9999:=by
  have:z=0\/z=1:=by omega
  rcases this with rfl | rfl
  ·exact ⟨none,rfl,fun q e=>by cases e⟩
  ·exact ⟨some (x,y),rfl,fun q e=>by cases e;exact ⟨x1,x2,y1,by omega⟩⟩
 refine ⟨_,ea,?_⟩
 k_is
 have gs3:=gs.keep d.kp
 have hf3:=d.kp _ _ nf hf
 refine ⟨by rw [au gs3.at_];rfl,?_⟩
 have le:=gs3.len
 refine oX es.length (fun i=>(es[i]?).getD .non) (fun i acc S'=>S'=S3/\acc=(G.take i).map aJ) (fun i acc S' hi ⟨e,_⟩=>by subst e;exact oY gs3.at_ _ uv) (by omega) (fun i acc S4 hi ⟨e4,ea'⟩=>?_) (fun es' S4 ⟨e4,ea'⟩=>⟨by rw [ea',List.length_map,List.length_take];omega,?_⟩) ⟨rfl,rfl⟩
 ·subst e4
  have li:i < G.length:=by omega
  obtain ⟨b,eb,_,_,zb⟩:=gs3.row i G[i] (gEG li)
  simp only [eb,Option.getD_some]
  refine ⟨_,rfl,?_⟩
  k_is
  refine aa (show ad b7 (.ref b) S4=some (.tup (G[i].map D.int),S4) by simp only [ad,ak,au zb,Option.map_some,b7]) ?_
  refine ⟨rfl,?_⟩
  rw [ea',List.take_succ_eq_append_getElem li,List.map_append];rfl
 ·subst e4
  rw [List.take_of_length_le (by omega)] at ea'
  subst ea'
  refine aa (show b7 false (G.map aJ) S4=some (.tup (G.map aJ),S4) from rfl) ?_
  refine aa (show ad b7 (.ref Nf) S4=some (.tup (F.map D.int),S4) by simp only [ad,ak,au hf3,Option.map_some,b7]) ?_
  k_is
  exact q a S4 d ha
theorem sR {l:List Int} {j:Nat} (h:j < l.length):(l[j]::l.eraseIdx j).Perm l:=by
 induction l generalizing j with
 | nil=>simp at h
 | cons a l ih=>
  cases j with
  | zero=>exact List.Perm.refl _
  | succ j=>
   rw [List.length_cons] at h
   have:=ih (j:=j) (by omega)
   rw [List.getElem_cons_succ,List.eraseIdx_cons_succ]
   exact (List.Perm.swap _ _ _).trans (this.cons a)
theorem nw:∀ (l:List Int) (j:Nat),(l.map D.int).eraseIdx j=(l.eraseIdx j).map D.int
 | [],_=>rfl
 | a::l,0=>rfl
 | a::l,j+1=>by rw [List.map_cons,List.eraseIdx_cons_succ,List.eraseIdx_cons_succ,List.map_cons,nw l j]
theorem zJ {n:Nat} {l:List Int} {j:Nat} (hn:S[n]?=some (.lst (l.map D.int))) (hj:j < l.length):eN (.ref n) [.int (j:Int)] S=some (.int l[j],S.set n (.lst ((l.eraseIdx j).map D.int))):=by
 have hix:ixN (l.map D.int).length (j:Int)=some j:=by
  unfold ixN
  rw [if_pos (by omega),if_pos (by rw [List.length_map];omega),Int.toNat_natCast]
 have hg:(l.map D.int)[j]?=some (.int l[j]):=by rw [List.getElem?_map,gEG hj];rfl
 have he:(l.map D.int).eraseIdx j=(l.eraseIdx j).map D.int:=nw l j
 simp only [eN,chg,hn,hix,hg,Option.map_some,he]
end Lw
namespace Lw
open PySem Ev Sn L2
variable {p:Nat} {S S':Sto} {k:Nat} {Q:D->Sto->Prop} {K:Sky}
theorem md {n:Nat} {l:List Int} (h:l.Perm ((List.range n).map fun i=>Int.ofNat i)):l.Nodup/\(∀ x ∈ l,0<=x/\x < n)/\l.length=n:=by
 refine ⟨h.nodup_iff.mpr (List.pairwise_map.mpr (List.nodup_range.imp fun h z=>h (Int.ofNat.inj z))),fun x hx=>?_,by rw [h.length_eq,List.length_map,List.length_range]⟩
 obtain ⟨i,hi,rfl⟩:=List.mem_map.mp (h.mem_iff.mp hx)
 have:=List.mem_range.mp hi
 show 0<=(i:Int)/\(i:Int) < n
 omega
structure Fxs (p N Nl Nf:Nat) (S:Sto) (es:List D) (G:List (List Int)) (l F:List Int):Prop where
 gs:Gs p N Nl S es G
 al:S[Nl]?=some (.lst (l.map D.int))
 af:S[Nf]?=some (.lst (F.map D.int))
 nn:Nl < Nf
 pm:(F++l).Perm ((List.range G.length).map fun i=>Int.ofNat i)
 rg:∀ (j:Nat) g,G[j]?=some g->g.getD 6 0=0\/(j:Int) ∈ F
theorem Fxs.keep {N Nl Nf:Nat} {es:List D} {G:List (List Int)} {l F:List Int} (h:Fxs p N Nl Nf S es G l F) (kp:Ev.Kp p S S') (hN:N < Nl):Fxs p N Nl Nf S' es G l F:=by
 have:=h.gs.pN
 have:=h.nn
 exact ⟨h.gs.keep kp,kp _ _ (by omega) h.al,kp _ _ (by omega) h.af,h.nn,h.pm,h.rg⟩
theorem Dh {r s mo:Int} {M G:List (List Int)} {H:List (Int × Int)} {es:List D} {N hi:Nat} {S0:Sto} {u4 u5 u6 u7 u8 u9 u10:Option D} (h:Dr p S0 S) (l0:S0.length<=N) (gs:Gs p N S.length S es G) (me:MeOk r s M H) (g7:G.length<=7) (gb:∀ g ∈ G,GB M.length r s g) (g0:∀ g ∈ G,g.getD 6 0=0)
  (q:∀ K S',Dr p S0 S'->SkOk K->K.G.length=G.length->Q (skE K) S') :
  rW (wSs (evC ag (k+3)) (fN ag) 57 (gy.drop 3)) [some (.ref p),some (.int mo),some (meL r s M H),some (.ref N),u4,u5,u6,u7,u8,u9,u10,none,none,none,none] S (out Q):=by
 have tail:=fun (u11 u13:Option D) (G':List (List Int)) (es':List D) (F:List Int) (Nf hi:Nat) (S1:Sto) (d:Dr p S0 S1) (gs':Gs p N hi S1 es' G') (hf:S1[Nf]?=some (.lst (F.map D.int))) (nf:Nf ≠ p) (lG:G'.length=G.length) (gb':∀ g ∈ G',GB M.length r s g) (nd:F.Nodup) (bd:∀ x ∈ F,0<=x/\x < G'.length) (rg:∀ (j:Nat) g,G'[j]?=some g->g.getD 6 0=0\/(j:Int) ∈ F)=>
  Dg (k:=k) (Q:=Q) (mo:=mo) (u4:=u4) (u5:=u5) (u6:=u6) (u7:=u7) (u8:=u8) (u9:=u9) (u10:=u10) (u11:=u11) (u13:=u13) d.pot gs' hf nf me (by omega) fun a S2 d2 ha=>q _ S2 (d.trans d2) ⟨me,by show G'.length<=7;omega,gb',nd,bd,rg,ha⟩ lG
 dsimp only [gy,List.drop] at tail ⊢
 have pN:=gs.pN
 have le:=gs.len
 have lN:N < S.length:=(List.getElem?_eq_some_iff.mp gs.at_).1
 k_is
 refine aa (cE gs.at_) ?_
 refine ⟨es.length,rfl,by omega,?_⟩
 k_is
 rw [le]
 have al:(S++[Ob.lst ((List.range G.length).map fun j=>D.int (Int.ofNat j))]++[Ob.lst []])[S.length]?=some (.lst (((List.range G.length).map fun j=>Int.ofNat j).map D.int)):=by
  rw [List.getElem?_append_left (by simp),aD,List.map_map];rfl
 have af:(S++[Ob.lst ((List.range G.length).map fun j=>D.int (Int.ofNat j))]++[Ob.lst []])[List.length (S++[Ob.lst ((List.range G.length).map fun j=>D.int (Int.ofNat j))])]?=some (.lst (([]:List Int).map D.int)):=aD
 have sm1:Sm S (S++[Ob.lst ((List.range G.length).map fun j=>D.int (Int.ofNat j))]++[Ob.lst []]):=(Sm.app _ _).trans (Sm.app _ _)
 have nn:S.length < List.length (S++[Ob.lst ((List.range G.length).map fun j=>D.int (Int.ofNat j))]):=by simp
 generalize List.length (S++[Ob.lst ((List.range G.length).map fun j=>D.int (Int.ofNat j))])=Nf at *
 generalize S++[Ob.lst ((List.range G.length).map fun j=>D.int (Int.ofNat j))]++[Ob.lst []]=S1 at *
 have d1:Dr p S0 S1:=h.thenSm sm1
 have fx1:Fxs p N S.length Nf S1 es G ((List.range G.length).map fun j=>Int.ofNat j) []:=⟨gs.keep sm1.kp,al,af,nn,List.Perm.refl _,fun j g e=>.inl (g0 g (List.mem_of_getElem? e))⟩
 have sl:S0.length<=S.length:=by omega
 generalize S.length=Nl at *
 refine aa (cE (sm1 _ _ gs.at_)) ?_
 k_is
 rw [le]
 refine ⟨rfl,aB d1.pot (by omega) (by omega) fun t S2 t1 t2 d2=>?_⟩
 refine ⟨rfl,aB d2.pot (by decide) (by decide) fun z S3 z1 z2 d3=>?_⟩
 k_is
 obtain ⟨c,ec,hc⟩:∃ c:Nat,atI [D.int 0,D.int t] z=some (D.int c)/\c<=G.length:=by
  have:z=0\/z=1:=by omega
  rcases this with rfl | rfl
  ·exact ⟨0,rfl,Nat.zero_le _⟩
  ·obtain ⟨m,rfl⟩:∃ m:Nat,t=(m:Int):=⟨t.toNat,by omega⟩
   exact ⟨m,rfl,by omega⟩
 refine ⟨_,ec,?_⟩
 k_is
 refine ⟨ig (by omega) (by omega),?_⟩
 rw [Int.toNat_natCast]
 refine lZ (by omega) (fun i ρ S'=>Dr p S0 S'/\∃ G' l F u13,ρ=[some (.ref p),some (.int mo),some (meL r s M H),some (.ref N),u4,u5,u6,u7,u8,u9,u10,some (.ref Nl),some (.ref Nf),u13,none]/\Fxs p N Nl Nf S' es G' l F/\F.length=i/\G'.length=G.length/\∀ g ∈ G',GB M.length r s g) (fun i ρ S4 hi ⟨d4,G',l,F,u13,er,fx,lF,lG,gb'⟩=>?_) (fun ρ S4 ⟨d4,G',l,F,u13,er,fx,lF,lG,gb'⟩=>?_) ⟨(d1.trans d2).trans d3,G,_,[],none,rfl,fx1.keep (d2.trans d3).kp lN,rfl,rfl,gb⟩
 ·subst er
  refine ⟨_,rfl,?_⟩
  k_is
  have pl:F.length+l.length=G'.length:=by have:=fx.pm.length_eq;rw [List.length_append,List.length_map,List.length_range] at this;exact this
  refine ⟨cq fx.af,?_⟩
  refine ⟨cq fx.al,?_⟩
  refine aa (cE fx.al) ?_
  rw [List.length_map]
  refine ⟨rfl,aB d4.pot (by omega) (by omega) fun j0 S5 j1 j2 d5=>?_⟩
  obtain ⟨j,rfl⟩:∃ j:Nat,j0=(j:Int):=⟨j0.toNat,by omega⟩
  have hj:j < l.length:=by omega
  have fx5:=fx.keep d5.kp lN
  refine aa (zJ fx5.al hj) ?_
  have nnf:=fx5.nn
  have lt5:Nl < S5.length:=(List.getElem?_eq_some_iff.mp fx5.al).1
  have ltf:Nf < S5.length:=(List.getElem?_eq_some_iff.mp fx5.af).1
  have af6:(S5.set Nl (.lst ((l.eraseIdx j).map D.int)))[Nf]?=some (.lst (F.map D.int)):=by rw [List.getElem?_set_ne (by omega)];exact fx5.af
  rw [l3 af6 (by rw [List.length_map];omega)]
  k_is
  have ef:F.map D.int++[D.int l[j]]=(F++[l[j]]).map D.int:=by rw [List.map_append];rfl
  rw [ef]
  have pm7:((F++[l[j]])++l.eraseIdx j).Perm ((List.range G'.length).map fun i=>Int.ofNat i):=by
   rw [List.append_assoc]
   exact ((sR hj).append_left F).trans fx.pm
  have fx7:Fxs p N Nl Nf ((S5.set Nl (.lst ((l.eraseIdx j).map D.int))).set Nf (.lst ((F++[l[j]]).map D.int))) es G' (l.eraseIdx j) (F++[l[j]]):=by
   refine ⟨(fx5.gs.other (Nat.le_refl _) lN).other (by omega) lN,?_,cS (by rw [List.length_set];exact ltf),nnf,pm7,fun j' g e=>?_⟩
   ·rw [List.getElem?_set_ne (by omega),cS lt5]
   ·rcases fx.rg j' g e with z | z
    ·exact .inl z
    ·exact .inr (List.mem_append_left _ z)
  have d7:Dr p S0 ((S5.set Nl (.lst ((l.eraseIdx j).map D.int))).set Nf (.lst ((F++[l[j]]).map D.int))):=⟨((d4.kp.trans d5.kp).setNew (by omega)).setNew (by omega),(d5.pot.setNe (by omega)).setNe (by omega)⟩
  generalize (S5.set Nl (.lst ((l.eraseIdx j).map D.int))).set Nf (.lst ((F++[l[j]]).map D.int))=S7 at *
  have xb:=(md fx.pm).2.1 l[j] (List.mem_append_right _ (List.getElem_mem hj))
  generalize l[j]=x at *
  refine aa (show ixS (meL r s M H) (.int 0) S7=some (.int r,S7) from rfl) ?_
  k_is
  refine bq (fun h1=>?_) fun h1=>?_
  ·k_is
   have r0:=of_decide_eq_true h1
   have r8:=me.r8
   refine ⟨rfl,aB d7.pot (by decide) (by decide) fun y S8 y1 y2 d8=>?_⟩
   k_is
   have fx8:=fx7.keep d8.kp lN
   refine bq (fun h2=>?_) fun h2=>?_
   ·k_is
    refine aa (show ixS (meL r s M H) (.int 0) S8=some (.int r,S8) from rfl) ?_
    refine ⟨rfl,aB d8.pot r0 (by omega) fun w S9 w1 w2 d9=>?_⟩
    k_is
    have fx9:=fx8.keep d9.kp lN
    refine aa (oZ (ds:=F.map D.int) (e:=.int x) (by rw [fx9.af,List.map_append];rfl)) ?_
    have hx:x.toNat < G'.length:=by omega
    obtain ⟨a,ea,n1,n2,za⟩:=fx9.gs.row x.toNat G'[x.toNat] (gEG hx)
    refine aa (ga fx9.gs.at_ xb.1 ea) ?_
    k_is
    obtain ⟨kd,jo,fi,la,du,we,ri,eg,hb⟩:=gb' G'[x.toNat] (List.getElem_mem hx)
    rw [eg] at za
    refine ⟨_,uw (i:=6) za (by decide) (by show 6 < 7;decide),?_⟩
    k_is
    have es9:(([kd,jo,fi,la,du,we,ri]:List Int).map D.int).set (6:Int).toNat (.int (1+w))=([kd,jo,fi,la,du,we,1+w]:List Int).map D.int:=rfl
    rw [es9]
    refine ⟨⟨((d7.kp.trans d8.kp).trans d9.kp).setNew (by omega),d9.pot.setNe (by omega)⟩,G'.set x.toNat [kd,jo,fi,la,du,we,1+w],_,_,_,rfl,⟨fx9.gs.setRow hx ea,?_,?_,nnf,by rw [List.length_set];exact fx9.pm,fun j' g e=>?_⟩,by rw [List.length_append,List.length_singleton];omega,by rw [List.length_set];exact lG,fun g hg=>?_⟩
    ·rw [List.getElem?_set_ne (by omega)];exact fx9.al
    ·rw [List.getElem?_set_ne (by omega)];exact fx9.af
    ·by_cases hjj:j'=x.toNat
     ·subst hjj
      right
      have:((x.toNat:Nat):Int)=x:=by omega
      rw [this]
      exact List.mem_append_right _ (List.mem_singleton.mpr rfl)
     ·rw [List.getElem?_set_ne (Ne.symm hjj)] at e
      exact fx9.rg j' g e
    ·rcases List.mem_or_eq_of_mem_set hg with hg | rfl
     ·exact gb' g hg
     ·exact ⟨kd,jo,fi,la,du,we,1+w,rfl,by omega⟩
   ·k_is
    exact ⟨d7.trans d8,G',_,_,_,rfl,fx8,by rw [List.length_append,List.length_singleton];omega,lG,gb'⟩
  ·k_is
   exact ⟨d7,G',_,_,_,rfl,fx7,by rw [List.length_append,List.length_singleton];omega,lG,gb'⟩
 ·subst er
  k_is
  have pr:=md fx.pm
  have nnf:=fx.nn
  exact tail _ _ G' es F Nf Nl S4 d4 fx.gs fx.af (by omega) lG gb' (List.Nodup.sublist (List.sublist_append_left F l) pr.1) (fun y hy=>pr.2.1 y (List.mem_append_left _ hy)) fx.rg
end Lw
namespace Lw
open PySem Ev Sn L2
variable {p:Nat} {S S':Sto} {k:Nat} {Q:D->Sto->Prop} {K:Sky}
theorem ux {mo:Int} (m0:0<=mo) (m7:mo<=7) (h:Pot p S) (q:∀ K S',Dr p S S'->SkOk K->(K.G.length:Int)<=mo->Q (skE K) S'):Ok (evC ag (k+4) ji [.ref p,.int mo] S) Q:=by
 refine aE (d:=jp) (ρ:=[some (.ref p),some (.int mo),none,none,none,none,none,none,none,none,none,none,none,none,none]) rfl rfl ?_
 have fix:=@Dh p
 dsimp only [jp]
 dsimp only [gy,List.drop] at fix ⊢
 k_is
 refine ⟨rfl,sQ h fun r s M H S1 d1 me=>?_⟩
 rw [show (D.tup [.int r,.int s,.tup (M.map aJ),.tup (H.map ac)])=meL r s M H from rfl]
 k_is
 have lt1:=d1.pot.lt
 have m1:=me.m1
 have m4:=me.m4
 have s0:=me.s0
 have s60:=me.s60
 have sl:S.length<=S1.length:=Kp.len d1.kp lt1
 have d2:Dr p S (S1++[Ob.lst []]):=d1.thenSm (Sm.app _ _)
 have g2:Gs p S1.length (List.length (S1++[Ob.lst []])) (S1++[Ob.lst []]) [] []:=⟨lt1,aD,rfl,fun i g e=>by simp at e,fun i j a e=>by simp at e⟩
 generalize S1++[Ob.lst []]=S2 at *
 generalize S1.length=N at *
 refine ⟨rfl,aB d2.pot (by decide) (by decide) fun i3 S3 j3 k3 d3=>?_⟩
 k_is
 obtain ⟨wd,at3,h3⟩:∃ e:Int,atI [D.int 5,D.int 20,D.int 60] i3=some (D.int e)/\0 < e/\e<=60:=by
  have:i3=0\/i3=1\/i3=2:=by omega
  rcases this with rfl | rfl | rfl
  ·exact ⟨5,rfl,by decide,by decide⟩
  ·exact ⟨20,rfl,by decide,by decide⟩
  ·exact ⟨60,rfl,by decide,by decide⟩
 refine ⟨_,at3,?_⟩
 refine ⟨rfl,aB d3.pot (by decide) (by decide) fun i4 S4 j4 k4 d4=>?_⟩
 k_is
 obtain ⟨lg,at4,h4⟩:∃ e:Int,atI [D.int 4,D.int 30,D.int 90,D.int 400] i4=some (D.int e)/\0 < e/\e<=400:=by
  have:i4=0\/i4=1\/i4=2\/i4=3:=by omega
  rcases this with rfl | rfl | rfl | rfl
  ·exact ⟨4,rfl,by decide,by decide⟩
  ·exact ⟨30,rfl,by decide,by decide⟩
  ·exact ⟨90,rfl,by decide,by decide⟩
  ·exact ⟨400,rfl,by decide,by decide⟩
 refine ⟨_,at4,?_⟩
 k_is
 refine ⟨rfl,aB d4.pot (by omega) (by omega) fun n0 S5 n1 n2 d5=>?_⟩
 k_is
 obtain ⟨n,rfl⟩:∃ n:Nat,n0=(n:Int):=⟨n0.toNat,by omega⟩
 refine ⟨ig (by omega) (by omega),?_⟩
 rw [Int.toNat_natCast]
 have d25:=(d3.trans d4).trans d5
 refine lZ (by omega) (fun i ρ S'=>Dr p S S'/\∃ es G u6 u7 u8 u9 u10,ρ=[some (.ref p),some (.int mo),some (meL r s M H),some (.ref N),some (.int wd),some (.int lg),u6,u7,u8,u9,u10,none,none,none,none]/\Gs p N S'.length S' es G/\G.length=i/\∀ g ∈ G,GB M.length r s g/\g.getD 6 0=0) (fun i ρ S6 hi ⟨d6,es,G,u6,u7,u8,u9,u10,er,gs,lG,gb⟩=>?_) (fun ρ S6 ⟨d6,es,G,u6,u7,u8,u9,u10,er,gs,lG,gb⟩=>?_) ⟨d2.trans d25,[],[],none,none,none,none,none,rfl,(g2.keep d25.kp).up (Kp.len d25.kp d25.pot.lt),rfl,fun g hg=>by simp at hg⟩
 ·subst er
  refine ⟨_,rfl,?_⟩
  k_is
  refine ⟨rfl,aB d6.pot h3.1 (by omega) fun jo S7 o1 o2 d7=>?_⟩
  k_is
  refine aa (show ixS (meL r s M H) (.int 1) S7=some (.int s,S7) from rfl) ?_
  k_is
  refine ⟨rfl,aB d7.pot (by decide) (by decide) fun x S8 x1 x2 d8=>?_⟩
  refine ⟨rfl,aB d8.pot (by decide) (by decide) fun z S9 z1 z2 d9=>?_⟩
  k_is
  obtain ⟨e,ate,he⟩:∃ e:Int,atI [D.int 0,D.int x] z=some (D.int e)/\0<=e/\e<=9:=by
   have:z=0\/z=1:=by omega
   rcases this with rfl | rfl
   ·exact ⟨0,rfl,by decide,by decide⟩
   ·exact ⟨x,rfl,by omega,by omega⟩
  refine ⟨_,ate,?_⟩
  k_is
  refine ⟨rfl,aB d9.pot h4.1 (by omega) fun a Sa a1 a2 da=>?_⟩
  k_is
  refine ⟨rfl,aB da.pot h4.1 (by omega) fun b Sb b1 b2 db=>?_⟩
  k_is
  have dAll:=(((d7.trans d8).trans d9).trans da).trans db
  have gsb:=gs.keep dAll.kp
  refine ⟨cq gsb.at_,?_⟩
  refine aa (show ixS (meL r s M H) (.int 2) Sb=some (.tup (M.map aJ),Sb) from rfl) ?_
  refine aa (show ad bx (.tup (M.map aJ)) Sb=some (.int M.length,Sb) by simp only [ad,ak,bx,List.length_map]) ?_
  refine ⟨rfl,aB db.pot (by omega) (by omega) fun kd Sc c1 c2 dc=>?_⟩
  refine ⟨rfl,aB dc.pot (by decide) (by decide) fun w Sd w1 w2 dd=>?_⟩
  k_is
  obtain ⟨we,atw,hw⟩:∃ e:Int,atI [D.int 0,D.int 1,D.int 7,D.int 99] w=some (D.int e)/\0<=e/\e<=99:=by
   have:w=0\/w=1\/w=2\/w=3:=by omega
   rcases this with rfl | rfl | rfl | rfl
   ·exact ⟨0,rfl,by decide,by decide⟩
   ·exact ⟨1,rfl,by decide,by decide⟩
   ·exact ⟨7,rfl,by decide,by decide⟩
   ·exact ⟨99,rfl,by decide,by decide⟩
  refine ⟨_,atw,?_⟩
  k_is
  have dAll2:=dAll.trans (dc.trans dd)
  have gsd:=(gs.keep dAll2.kp).up (Kp.len dAll2.kp dAll2.pot.lt)
  have atN:=Sm.app Sd [Ob.lst [D.int kd,D.int jo,D.int (jo+s+e),D.int (jo+s+e+a),D.int (jo+b),D.int we,D.int 0]] _ _ gsd.at_
  rw [l3 atN (by rw [gsd.len];omega)]
  k_is
  have sn:=gsd.snoc (g:=[kd,jo,jo+s+e,jo+s+e+a,jo+b,we,0])
  have d6d:=d6.trans dAll2
  refine ⟨⟨(d6d.kp.trans (Sm.app _ _).kp).setNew (by omega),((Dr.sm d6d.pot (Sm.app _ _)).pot).setNe (by have:=gsd.pN;omega)⟩,es++[D.ref (List.length Sd)],G++[[kd,jo,jo+s+e,jo+s+e+a,jo+b,we,0]],_,_,_,_,_,rfl,?_,by rw [List.length_append,List.length_singleton];omega,fun g hg=>?_⟩
  ·rw [List.length_set,List.length_append,List.length_singleton]
   exact sn
  ·rcases List.mem_append.mp hg with hg | hg
   ·exact gb g hg
   ·rw [List.mem_singleton.mp hg]
    exact ⟨⟨kd,jo,jo+s+e,jo+s+e+a,jo+b,we,0,rfl,by have:=me.r0;omega⟩,rfl⟩
 ·subst er
  exact fix (hi:=0) d6 (by omega) gs me (by omega) (fun g hg=>(gb g hg).1) (fun g hg=>(gb g hg).2) fun K S' d sk lG=>q K S' d sk (by omega)
end Lw
namespace Lw
open PySem Ev L2
variable {p:Nat} {S:Sto} {k:Nat} {Q:D->Sto->Prop}
theorem LL {α β:Type} (f:α->β):∀ (l:List α) (j:Nat),(l.map f).eraseIdx j=(l.eraseIdx j).map f
 | [],_=>rfl
 | _::_,0=>rfl
 | a::l,j+1=>by rw [List.map_cons,List.eraseIdx_cons_succ,List.eraseIdx_cons_succ,List.map_cons,LL f l j]
theorem LM {α:Type}:∀ (l:List α) (j:Nat) (hj:j < l.length),(l[j]::l.eraseIdx j).Perm l
 | a::l,0,_=>List.Perm.refl _
 | a::l,j+1,hj=>by
  rw [List.eraseIdx_cons_succ,List.getElem_cons_succ]
  exact (List.Perm.swap _ _ _).trans ((LM l j (by simpa using hj)).cons a)
theorem zK {L:Nat} {is0:List Int} (h:Pot p S) (hL:S[L]?=some (.lst (is0.map D.int))) (nL:L ≠ p) (hn:is0.length<=1000)
  (q:∀ (is:List Int) S',Dr p S S'->is.Perm is0->Q (.ref (List.length S')) (S'++[.lst (is.map D.int)])):Ok (evC ag (k+2) fO [.ref p,.ref L] S) Q:=by
 refine aE (d:=cO) (ρ:=[some (.ref p),some (.ref L),none]) rfl rfl ?_
 dsimp only [cO,fQ]
 k_is
 have it:ak (.ref L) S=some (false,is0.map D.int):=by simp only [ak,au hL,Option.map_some]
 rw [it]
 show Ok (some (is0.map D.int,S)) _
 rw [am]
 k_is
 have lt:=h.lt
 have d0:Dr p S (S++[Ob.lst (is0.map D.int)]):=Dr.sm h (Sm.app _ _)
 have hL0:=Sm.app S [Ob.lst (is0.map D.int)] _ _ hL
 have hLl:L < List.length S:=(List.getElem?_eq_some_iff.mp hL).1
 k_is
 refine ⟨(by rw [au hL0];rfl),?_⟩
 have lm:(is0.map D.int).length=is0.length:=List.length_map _
 refine oX is0.length (fun i=>((is0.map D.int)[i]?).getD .non) (fun i acc S'=>Ev.Kp p S S'/\Pot p S'/\∃ left as:List Int,S'[List.length S]?=some (.lst (left.map D.int))/\acc=as.map D.int/\(as++left).Perm is0/\left.length+i=is0.length) (fun i acc S' hi ⟨kp,_⟩=>by rw [<-lm];exact oY (kp _ _ nL hL) _ uv) (by omega) (fun i acc S1 hi ⟨kp,pt,left,as,hf,ea,pm,ll⟩=>⟨_,rfl,?_⟩) (fun es S1 ⟨kp,pt,left,as,hf,ea,pm,ll⟩=>⟨by rw [ea,List.length_map];have:=pm.length_eq;rw [List.length_append] at this;omega,?_⟩) ⟨d0.kp,d0.pot,is0,[],aD,rfl,by simp,by omega⟩
 ·k_is
  refine ⟨cq hf,?_⟩
  k_is
  have lq:ad bx (D.ref (List.length S)) S1=some (.int left.length,S1):=by simp only [ad,ak,au hf,Option.map_some,bx,List.length_map]
  refine aa lq ?_
  k_is
  refine ⟨rfl,aB pt (by omega) (by omega) fun r S2 r1 r2 d2=>?_⟩
  k_is
  obtain ⟨j,rfl⟩:∃ n:Nat,r=(n:Int):=⟨r.toNat,by omega⟩
  have hj:j < left.length:=by omega
  have hf2:=d2.kp _ _ (show List.length S ≠ p by omega) hf
  have lt2:List.length S < S2.length:=(List.getElem?_eq_some_iff.mp hf2).1
  have pa:eN (.ref (List.length S)) [.int (j:Int)] S2=some (.int left[j],S2.set (List.length S) (.lst ((left.map D.int).eraseIdx j))):=by
   have hix:ixN (left.map D.int).length (j:Int)=some j:=by
    unfold ixN
    rw [if_pos (by omega),if_pos (by rw [List.length_map];omega),Int.toNat_natCast]
   simp only [eN,chg,hf2,hix,List.getElem?_map,gEG hj,Option.map_some]
  refine aa pa ?_
  k_is
  refine ⟨(kp.trans d2.kp).setNew (Nat.le_refl _),d2.pot.setNe (by omega),left.eraseIdx j,as++[left[j]],by rw [cS lt2,LL],by rw [ea,List.map_append];rfl,?_,by rw [List.length_eraseIdx_of_lt hj];omega⟩
  refine List.Perm.trans ?_ pm
  rw [List.append_assoc]
  exact List.Perm.append_left as (LM left j hj)
 ·subst ea
  k_is
  have:left=[]:=List.length_eq_zero_iff.mp (by omega)
  subst this
  rw [List.append_nil] at pm
  exact q as S1 ⟨kp,pt⟩ pm
theorem ny:∀ (ps:List (Int × Int)),dG (ps.map ac)=some ps
 | []=>rfl
 | q::ps=>by
  rw [List.map_cons]
  simp only [dG,ny ps,ac,kM]
theorem sS {α:Type} (d:α) (l:List α):(List.range l.length).map (fun i=>l.getD i d)=l:=by
 apply List.ext_getElem
 ·simp
 ·intro i h1 h2
  simp at h1
  simp [h1]
theorem wb (ps:List (Int × Int)):∃ qs:List (Int × Int),cJ ps .non (ps.map ac)=qs.map ac/\qs.Perm ps:=by
 by_cases h:ps.length < 2
 ·exact ⟨ps,by unfold cJ;rw [if_pos (by rw [List.length_map];exact h)],List.Perm.refl _⟩
 ·have hn:0 < ps.length:=by omega
  have pm:Pm ps.length (eM (mw ps) (PySem.W.kas_sort ps.length)):=(oi hn).run
  refine ⟨(eM (mw ps) (PySem.W.kas_sort ps.length)).toList.map fun i=>ps.getD i (0,0),?_,?_⟩
  ·unfold cJ
   rw [if_neg (by rw [List.length_map];exact h),List.length_map,List.map_map]
   refine List.map_congr_left fun i hi=>?_
   have hi':=(Ev.gW (lt:=mw ps) hn).1 i hi
   simp [hi']
  ·have e:(eM (mw ps) (PySem.W.kas_sort ps.length)).toList.Perm (List.range ps.length):=by
    have:=Array.perm_iff_toList_perm.mp pm
    simpa using this
   have:=e.map fun i=>ps.getD i (0,0)
   rwa [sS] at this
end Lw
namespace Lw
open PySem Ev Sn L2
variable {p:Nat} {S S':Sto} {k:Nat} {Q:D->Sto->Prop} {K:Sky}
theorem zL {n:Nat}:∀ i S',Sm S S'->nxR 0 n i S'=some (((List.range n)[i]?).map fun (j:Nat)=>D.int (0+(j:Int))):=fun i S' _=>by
 show some (if i < n then some (D.int (0+(i:Int))) else none)=_
 split
 ·rename_i h;rw [List.getElem?_range h];rfl
 ·rename_i h;rw [List.getElem?_eq_none (by rw [List.length_range];omega)];rfl
theorem wc {ps:List (Int × Int)} (h:ps.length < 64):∃ qs:List (Int × Int),cD false (ps.map ac)=some (qs.map ac)/\qs.Perm ps:=by
 obtain ⟨qs,e,pm⟩:=wb ps
 refine ⟨qs,?_,pm⟩
 show (if false=false then rZ false (ps.map ac) else none)=_
 rw [if_pos rfl]
 simp only [rZ,ny]
 rw [if_pos (by rw [List.length_map];exact h),e]
noncomputable def cz (K:Sky):List Int:=((List.range K.G.length).filter fun (j:Nat)=>!decide ((j:Int) ∈ K.F)).map fun (j:Nat)=>(j:Int)
theorem zM (h:SkOk K) {l:List Int} (pm:l.Perm (cz K)):Ord K (K.F++l):=by
 have mo:∀ x,x ∈ cz K ↔ (0<=x/\x < K.G.length/\x ∉ K.F):=fun x=>by
  unfold cz
  rw [List.mem_map]
  constructor
  ·rintro ⟨j,hj,rfl⟩
   obtain ⟨h1,h2⟩:=List.mem_filter.mp hj
   have:=List.mem_range.mp h1
   simp at h2
   exact ⟨by omega,by omega,h2⟩
  ·rintro ⟨h0,h1,h2⟩
   refine ⟨x.toNat,List.mem_filter.mpr ⟨List.mem_range.mpr (by omega),?_⟩,by omega⟩
   have:((x.toNat:Nat):Int)=x:=by omega
   rw [this]
   simp [h2]
 have no:(cz K).Nodup:=by
  unfold cz
  refine List.pairwise_map.mpr ((List.nodup_range.sublist List.filter_sublist).imp fun h z=>h (by omega))
 have nl:l.Nodup:=pm.nodup_iff.mpr no
 have nd:(K.F++l).Nodup:=List.nodup_append.mpr ⟨h.nd,nl,fun a ha b hb e=>by
  have:=((mo b).mp (pm.mem_iff.mp hb)).2.2
  exact this (e ▸ ha)⟩
 have bd:∀ g ∈ K.F++l,0<=g/\g < K.G.length:=fun g hg=>by
  rcases List.mem_append.mp hg with hg | hg
  ·exact h.bd g hg
  ·have:=(mo g).mp (pm.mem_iff.mp hg)
   exact ⟨this.1,this.2.1⟩
 have nr:((List.range K.G.length).map fun i=>Int.ofNat i).Nodup:=List.pairwise_map.mpr (List.nodup_range.imp fun h z=>h (Int.ofNat.inj z))
 have pr:(K.F++l).Perm ((List.range K.G.length).map fun i=>Int.ofNat i):=(List.perm_ext_iff_of_nodup nd nr).mpr fun x=>by
  constructor
  ·intro hx
   have:=bd x hx
   exact List.mem_map.mpr ⟨x.toNat,List.mem_range.mpr (by omega),by show ((x.toNat:Nat):Int)=x;omega⟩
  ·intro hx
   obtain ⟨j,hj,rfl⟩:=List.mem_map.mp hx
   have hj:=List.mem_range.mp hj
   by_cases hf:Int.ofNat j ∈ K.F
   ·exact List.mem_append_left _ hf
   ·refine List.mem_append_right _ (pm.mem_iff.mpr ((mo _).mpr ⟨?_,?_,hf⟩))
    ·show 0<=(j:Int);omega
    ·show (j:Int) < K.G.length;omega
 have:=pr.length_eq
 rw [List.length_map,List.length_range] at this
 exact ⟨nd,bd,this,⟨l,rfl⟩,pr⟩
theorem wg {l:List Int} {n:Nat} (h:SkOk K) (hn:S[n]?=some (.lst (l.map D.int))) (pm:l.Perm (cz K)) (q:∀ os S',Sm S S'->Ord K os->Q (.tup (os.map D.int)) S') :
  rW (wSs (evC ag (k+2)) (fN ag) 58 (fR.drop 2)) [some (.ref p),some (skE K),some (.ref n)] S (out Q):=by
 dsimp only [fR,List.drop]
 have ho:=zM h pm
 have g7:=h.g7
 have ln:=ho.ln
 rw [List.length_append] at ln
 k_is
 refine aa sk3 ?_
 refine aa (show ad b7 (.ref n) S=some (.tup (l.map D.int),S) by simp only [ad,ak,au hn,Option.map_some,b7]) ?_
 k_is
 refine ⟨by rw [List.length_map,List.length_map];omega,?_⟩
 rw [<-List.map_append]
 exact q _ S (Sm.refl _) ho
theorem nA (h:Pot p S) (sk:SkOk K) (q:∀ os S',Dr p S S'->Ord K os->Q (.tup (os.map D.int)) S'):Ok (evC ag (k+3) fP [.ref p,skE K] S) Q:=by
 refine aE (d:=f8) (ρ:=[some (.ref p),some (skE K),none]) rfl rfl ?_
 have tail:=@wg p
 dsimp only [f8]
 dsimp only [fR,List.drop] at tail ⊢
 have g7:=sk.g7
 have V:=sk.vd
 k_is
 refine aa sk2 ?_
 refine aa (show ad bx (.tup (K.G.map aJ)) S=some (.int K.G.length,S) by simp only [ad,ak,bx,List.length_map]) ?_
 k_is
 refine ⟨ig (by omega) (by omega),?_⟩
 rw [Int.toNat_natCast]
 refine bn (List.range K.G.length) (fun (j:Nat)=>D.int (0+(j:Int))) (fun (j:Nat)=>if (!decide ((j:Int) ∈ K.F))=true then [D.int (j:Int)] else []) (by rw [List.length_range];omega) (fun _ _=>by split <;> simp) zL (fun i j S' hj sm=>⟨_,rfl,?_⟩) fun S1 s1=>?_
 ·k_is
  refine aa sk3 ?_
  rw [Int.zero_add]
  refine aa (show av .notin (.int (j:Int)) (.tup (K.F.map D.int)) S'=some (.bl (true != decide ((j:Int) ∈ K.F)),S') from ud true K.F j S') ?_
  k_is
  cases c:decide ((j:Int) ∈ K.F) with
  | true=>k_is;exact ⟨rfl,Sm.refl _⟩
  | false=>k_is;exact ⟨rfl,Sm.refl _⟩
 ·rw [bD]
  have eo:(((List.range K.G.length).filter fun (j:Nat)=>!decide ((j:Int) ∈ K.F)).map fun (j:Nat)=>D.int (j:Int))=(cz K).map D.int:=by unfold cz;rw [List.map_map];rfl
  rw [eo]
  k_is
  have lt1:=(Dr.sm h s1).pot.lt
  have d2:Dr p S (S1++[Ob.lst ((cz K).map D.int)]):=Dr.sm h (s1.trans (Sm.app _ _))
  have lo:(cz K).length<=7:=by unfold cz;rw [List.length_map];exact Nat.le_trans (List.length_filter_le _ _) (by rw [List.length_range];exact g7)
  refine ⟨rfl,zK d2.pot aD (by omega) (by omega) fun l S3 d3 pm=>?_⟩
  k_is
  have lt3:=d3.pot.lt
  have d4:Dr p S (S3++[Ob.lst (l.map D.int)]):=(d2.trans d3).thenSm (Sm.app _ _)
  have a4:(S3++[Ob.lst (l.map D.int)])[List.length S3]?=some (.lst (l.map D.int)):=aD
  have n4:List.length S3 ≠ p:=by omega
  generalize S3++[Ob.lst (l.map D.int)]=S4 at *
  generalize List.length S3=N at *
  refine ⟨rfl,aB d4.pot (by decide) (by decide) fun y S5 y1 y2 d5=>?_⟩
  k_is
  have a5:=d5.kp _ _ n4 a4
  have d45:=d4.trans d5
  refine bq (fun _=>?_) fun _=>?_
  ·k_is
   refine ⟨by rw [au a5];rfl,?_⟩
   have ll:l.length<=7:=by rw [pm.length_eq];exact lo
   have hb:∀ x ∈ l,0<=x/\x < K.G.length:=fun x hx=>(zM sk pm).bd x (List.mem_append_right _ hx)
   refine bn l D.int (fun x=>[ac (gi K.G x 2,x)]) (by omega) (fun _ _=>Nat.le_refl _) (dN a5) (fun i x S' hx sm=>⟨_,rfl,?_⟩) fun S6 s6=>?_
   ·obtain ⟨x0,x1⟩:=hb x (List.mem_of_getElem? hx)
    obtain ⟨a,b,c,d,e,f,g,eg,e0,e1,e2,_⟩:=gl7 V x0 x1
    k_is
    refine aa sk2 (aa (gQ x0 eg) (aa (show ixS (aJ [a,b,c,d,e,f,g]) (.int 2) S'=some (.int c,S') from rfl) ?_))
    k_is
    exact ⟨by rw [e2];rfl,Sm.refl _⟩
   ·rw [bC]
    have ep:(l.map fun x=>ac (gi K.G x 2,x))=(l.map fun x=>(gi K.G x 2,x)).map ac:=by rw [List.map_map];rfl
    rw [ep]
    obtain ⟨qs,es,pq⟩:=wc (ps:=l.map fun x=>(gi K.G x 2,x)) (by rw [List.length_map];omega)
    refine ⟨_,es,?_⟩
    have lq:qs.length<=7:=by rw [pq.length_eq,List.length_map];exact ll
    refine bn qs ac (fun z=>[D.int z.2]) (by omega) (fun _ _=>Nat.le_refl _) ie (fun i z S' hz sm=>⟨_,show ao (.tup [.name 3,.name 4]) (.tup [.int z.1,.int z.2]) _=_ from ce (by simp) (by simp),?_⟩) fun S7 s7=>?_
    ·k_is
     exact ⟨rfl,Sm.refl _⟩
    ·rw [bC]
     k_is
     have e7:(qs.map fun z=>D.int z.2)=(qs.map (·.2)).map D.int:=by rw [List.map_map];rfl
     have pm7:(qs.map (·.2)).Perm (cz K):=by
      have:=pq.map (·.2)
      rw [List.map_map] at this
      have e8:(l.map ((·.2) ∘ fun x=>(gi K.G x 2,x)))=l:=(List.map_congr_left fun x _=>rfl).trans (List.map_id l)
      rw [e8] at this
      exact this.trans pm
     have d8:Dr p S (S7++[Ob.lst (qs.map fun z=>D.int z.2)]):=(d45.thenSm (s6.trans s7)).thenSm (Sm.app _ _)
     exact tail (k:=k) sk (by rw [<-e7];exact aD) pm7 fun os S8 s8 ho=>q os S8 (d8.thenSm s8) ho
  ·k_is
   exact tail (k:=k) sk a5 pm fun os S8 s8 ho=>q os S8 (d45.thenSm s8) ho
end Lw
namespace Lw
open PySem Ev Sn
variable {K:Sky}
structure KAt (K:Sky) (L:List (Int × Int)) (j:Nat) (z:Int × Int):Prop where
 lo:gi K.G z.1 2<=z.2
 hi:z.2<=gi K.G z.1 3
 op:opn K.H z.2=z.2
 gap:∀ a,aO K (L.take j)=some a->a.2+gp K a.1 (gi K.G z.1 0)<=z.2
 wt:(wts K L (jn K z.1):Int)<=K.r
 rg:dD K (L.take j) z.1 z.2=false
noncomputable def jt (K:Sky) (L:List (Int × Int)):Prop:=∀ (j:Nat) z,L[j]?=some z->KAt K L j z
theorem pd:∀ (l:List (Int × Int)) (m:Int),m<=opn l m
 | [],_=>Int.le_refl _
 | p::l,m=>by
  rw [opn]
  refine Int.le_trans ?_ (pd l _)
  split
  ·omega
  ·exact Int.le_refl _
theorem mf:∀ {l:List (Int × Int)} {lo x y:Int},Ris lo l->x<=y->opn l x<=opn l y
 | [],_,_,_,_,h=>h
 | p::l,lo,x,y,h,hxy=>by
  rw [Ris] at h
  rw [opn,opn]
  by_cases hx:p.1<=x/\x < p.2
  ·rw [if_pos hx]
   refine mf h.2.2 ?_
   split
   ·exact Int.le_refl _
   ·omega
  ·rw [if_neg hx]
   refine mf h.2.2 ?_
   split
   ·omega
   ·exact hxy
theorem qN:∀ {l:List (Int × Int)} {lo x:Int},Ris lo l->opn l (opn l x)=opn l x
 | [],_,_,_=>rfl
 | p::l,lo,x,h=>by
  rw [Ris] at h
  by_cases hx:p.1<=x/\x < p.2
  ·have e:opn (p::l) x=p.2:=by rw [opn,if_pos hx];exact iS h.2.2 (Int.le_refl _)
   rw [e,opn,if_neg (by omega)]
   exact iS h.2.2 (Int.le_refl _)
  ·have e:opn (p::l) x=opn l x:=by rw [opn,if_neg hx]
   rw [e,opn]
   by_cases hl:x < p.1
   ·have:opn l x=x:=iS h.2.2 (by omega)
    rw [this,if_neg hx];exact this
   ·have:=pd l x
    rw [if_neg (by omega)]
    exact qN h.2.2
inductive Low:List (Int × Int)->List (Int × Int)->Prop
 | nil:Low [] []
 | cons {p q:Int × Int} {P A:List (Int × Int)}:p.1=q.1->p.2<=q.2->Low P A->Low (p::P) (q::A)
theorem Low.len {P A:List (Int × Int)} (h:Low P A):P.length=A.length:=by
 induction h with
 | nil=>rfl
 | cons _ _ _ ih=>rw [List.length_cons,List.length_cons,ih]
theorem Low.fst {P A:List (Int × Int)} (h:Low P A):P.map (fun p=>jn K p.1)=A.map fun p=>jn K p.1:=by
 induction h with
 | nil=>rfl
 | cons e _ _ ih=>rw [List.map_cons,List.map_cons,ih,e]
theorem Low.snoc {P A:List (Int × Int)} {p q:Int × Int} (h:Low P A) (h1:p.1=q.1) (h2:p.2<=q.2):Low (P++[p]) (A++[q]):=by
 induction h with
 | nil=>exact .cons h1 h2 .nil
 | cons e l _ ih=>exact .cons e l ih
theorem Low.get {P A:List (Int × Int)} (h:Low P A):∀ (i:Nat) p q,P[i]?=some p->A[i]?=some q->p.2<=q.2:=by
 induction h with
 | nil=>intro i p q e;cases e
 | cons e l _ ih=>
  intro i p q e1 e2
  cases i with
  | zero=>cases e1;cases e2;exact l
  | succ i=>exact ih i p q e1 e2
theorem Low.wts {P A:List (Int × Int)} {t:Int} (h:Low P A):wts K P t<=wts K A t:=by
 unfold Sn.wts
 induction h with
 | nil=>exact Nat.le_refl _
 | @cons p q P A e l _ ih=>
  rw [List.filter_cons,List.filter_cons]
  by_cases hw:aA K t p=true
  ·have:aA K t q=true:=by
    simp only [aA,bAE,decide_eq_true_eq] at hw ⊢
    rw [<-e]
    omega
   rw [if_pos hw,if_pos this,List.length_cons,List.length_cons]
   omega
  ·rw [if_neg hw]
   split
   ·rw [List.length_cons];omega
   ·exact ih
theorem Low.last {P A:List (Int × Int)} (h:Low P A):∀ a,aO K P=some a->∃ b,aO K A=some b/\a.1=b.1/\a.2<=b.2:=by
 have key:∀ {P A},Low P A->(P.getLast?=none/\A.getLast?=none)\/∃ p q,P.getLast?=some p/\A.getLast?=some q/\p.1=q.1/\p.2<=q.2:=by
  intro P A h
  induction h with
  | nil=>exact .inl ⟨rfl,rfl⟩
  | @cons p q P A e l _ ih=>
   right
   rcases ih with ⟨h1,h2⟩ | ⟨p',q',h1,h2,h3⟩
   ·rw [List.getLast?_eq_none_iff] at h1 h2
    subst h1 h2
    exact ⟨p,q,rfl,rfl,e,l⟩
   ·refine ⟨p',q',?_,?_,h3⟩
    ·rw [List.getLast?_cons,h1];rfl
    ·rw [List.getLast?_cons,h2];rfl
 intro a ha
 unfold aO at ha ⊢
 rcases key h with ⟨h1,h2⟩ | ⟨p,q,h1,h2,h3,h4⟩
 ·rw [h1] at ha;rw [h2];exact ⟨a,ha,rfl,Int.le_refl _⟩
 ·rw [h1] at ha
  rw [h2]
  cases ha
  exact ⟨_,rfl,by rw [h3],h4⟩
theorem Di {A B:List Int} (h:∀ x ∈ A,∃ y ∈ B,x<=y) (hB:∀ y ∈ B,0<=y):oo 0 A<=oo 0 B:=by
 cases A with
 | nil=>
  show 0<=oo 0 B
  cases B with
  | nil=>exact Int.le_refl _
  | cons b B=>
   rw [iT (by simp)]
   exact hB _ (ur (by simp))
 | cons a A=>
  obtain ⟨y,hy,_⟩:=h a List.mem_cons_self
  have:B ≠ []:=fun z=>by rw [z] at hy;simp at hy
  rw [iT (by simp),iT this]
  exact sN (by simp) h
theorem wj {P A:List (Int × Int)} {g m m':Int} (h:Low P A) (hm:m<=m'):l8 K P g m<=l8 K A g m':=by
 unfold l8
 refine Di (fun x hx=>?_) fun y hy=>?_
 ·obtain ⟨t,ht,rfl⟩:=List.mem_map.mp hx
  refine ⟨1+(wts K A t:Int),List.mem_map.mpr ⟨t,?_,rfl⟩,by have:=h.wts (K:=K) (t:=t);omega⟩
  unfold fv at ht ⊢
  obtain ⟨h1,h2⟩:=List.mem_filter.mp ht
  rw [h.fst] at h1
  refine List.mem_filter.mpr ⟨h1,?_⟩
  simp only [bAE,decide_eq_true_eq] at h2 ⊢
  omega
 ·obtain ⟨t,_,rfl⟩:=List.mem_map.mp hy
  omega
theorem wk {P A:List (Int × Int)} {g m m':Int} (h:Low P A) (hm:m<=m') (hh:dD K A g m'=false):dD K P g m=false:=by
 have:=wj (K:=K) (g:=g) h hm
 unfold dD at hh ⊢
 cases h1:decide (0 < gi K.G g 6) with
 | false=>rfl
 | true=>
  rw [h1,Bool.true_and] at hh
  rw [Bool.true_and]
  have:=of_decide_eq_false hh
  exact decide_eq_false (by omega)
theorem zN:∀ {l:List Int} {k:Nat} {j t:Int},l.Pairwise (·<=·)->l[k]?=some j->t < j->(l.filter fun x=>decide (x<=t)).length<=k
 | [],_,_,_,_,h,_=>by cases h
 | a::l,0,j,t,hp,h,ht=>by
  cases h
  have:(a::l).filter (fun x=>decide (x<=t))=[]:=List.filter_eq_nil_iff.mpr fun x hx=>by
   rw [decide_eq_true_eq]
   rcases List.mem_cons.mp hx with rfl | hx
   ·omega
   ·have:=(List.pairwise_cons.mp hp).1 x hx
    omega
  rw [this];exact Nat.le_refl _
 | a::l,k+1,j,t,hp,h,ht=>by
  have ih:=zN (k:=k) (List.pairwise_cons.mp hp).2 h ht
  rw [List.filter_cons]
  split
  ·rw [List.length_cons];omega
  ·omega
theorem zO:∀ {l:List Int} {k:Nat} {j t:Int},l.Pairwise (·<=·)->l[k]?=some j->j<=t->k+1<=(l.filter fun x=>decide (x<=t)).length
 | [],_,_,_,_,h,_=>by cases h
 | a::l,0,j,t,hp,h,ht=>by
  cases h
  rw [List.filter_cons,if_pos (decide_eq_true ht),List.length_cons]
  omega
 | a::l,k+1,j,t,hp,h,ht=>by
  have ih:=zO (k:=k) (List.pairwise_cons.mp hp).2 h ht
  have:a<=j:=(List.pairwise_cons.mp hp).1 j (List.mem_of_getElem? h)
  rw [List.filter_cons,if_pos (decide_eq_true (by omega)),List.length_cons]
  omega
noncomputable def cj (K:Sky) (L:List (Int × Int)) (t:Int):Nat:=(L.filter fun p=>decide (jn K p.1<=t)).length
theorem uy {os:List Int} {L:List (Int × Int)} (ho:Ord K os) (hL:L.map (·.1)=os):(js K).Perm (L.map fun p=>jn K p.1):=by
 have e1:(L.map fun p=>jn K p.1)=os.map (jn K):=by rw [<-hL,List.map_map];rfl
 have e2:(((List.range K.G.length).map fun i=>Int.ofNat i).map (jn K))=K.G.map fun g=>g.getD 1 0:=by
  rw [List.map_map]
  apply List.ext_getElem
  ·simp
  ·intro i h1 h2
   simp only [List.length_map] at h2
   simp only [List.getElem_map,List.getElem_range,Function.comp_apply,jn,gi]
   show ((K.G[i]?).getD []).getD 1 0=_
   rw [gEG h2];rfl
 rw [e1]
 refine (bJ _).trans ?_
 rw [<-e2]
 exact (ho.pm.map (jn K)).symm
theorem Eh {os:List Int} {L:List (Int × Int)} {t:Int} (ho:Ord K os) (hL:L.map (·.1)=os):((js K).filter fun x=>decide (x<=t)).length=cj K L t:=by
 rw [((uy ho hL).filter _).length_eq,List.filter_map,List.length_map]
 rfl
theorem zQ {A B:List (Int × Int)} {t:Int}:cj K (A++B) t=cj K A t+cj K B t:=by unfold cj;rw [List.filter_append,List.length_append]
theorem uz {A B:List (Int × Int)} {t:Int}:wts K (A++B) t=wts K A t+wts K B t:=by unfold Sn.wts;rw [List.filter_append,List.length_append]
theorem IS {B:List (Int × Int)} {t:Int}:wts K B t<=cj K B t:=kc fun p _ h=>by
 simp only [aA,bAE] at h
 exact h.1
theorem IT {B:List (Int × Int)} {t:Int} (h:∀ p ∈ B,t < p.2 - K.s):cj K B t<=wts K B t:=kc fun p hp h'=>by
 simp only [aA,bAE]
 exact ⟨h',decide_eq_true (h p hp)⟩
theorem LN (h:SkOk K) (a b:Int):0<=gp K a b:=by
 unfold gp Dw.mg2
 cases e:K.M[a.toNat]? with
 | none=>simp
 | some r=>
  rw [Option.getD_some]
  cases e2:r[b.toNat]? with
  | none=>simp [e2]
  | some x=>
   have:=h.me.mat.ent r (List.mem_of_getElem? e) x (List.mem_of_getElem? e2)
   simp [e2]
   omega
end Lw
namespace Lw
open PySem Ev Sn
variable {K:Sky}
theorem pf {α:Type} {A B:List α} {z:α}:(A++z::B)[A.length]?=some z:=by rw [List.getElem?_append_right (Nat.le_refl _),Nat.sub_self];rfl
theorem iX {α:Type} {A B:List α}:(A++B).take A.length=A:=List.take_left
theorem gf {α:Type} {A B:List α} {z:α}:A++z::B=A++[z]++B:=by rw [List.append_assoc];rfl
theorem rise (h:SkOk K):∀ (B A:List (Int × Int)) (z:Int × Int),jt K (A++z::B)->∀ p ∈ B,z.2<=p.2
 | [],_,_,_=>fun p hp=>by cases hp
 | y::B,A,z,kp=>by
  have e:=gf (A:=A) (B:=y::B) (z:=z)
  have ky:=kp (A++[z]).length y (by rw [e];exact pf)
  rw [e] at kp
  have hg:=ky.gap (gi K.G z.1 0,z.2) (by rw [e,iX,cT])
  have:=LN h (gi K.G z.1 0) (gi K.G y.1 0)
  intro p hp
  have hzy:z.2<=y.2:=by
   have:z.2+gp K (gi K.G z.1 0) (gi K.G y.1 0)<=y.2:=hg
   omega
  rcases List.mem_cons.mp hp with rfl | hp
  ·exact hzy
  ·exact Int.le_trans hzy (rise h B (A++[z]) y kp p hp)
theorem Dj (h:SkOk K) {os:List Int} (ho:Ord K os) {A B:List (Int × Int)} {z:Int × Int} {m:Int} (hL:(A++z::B).map (·.1)=os) (kp:jt K (A++z::B)) (hm:m<=z.2):my K A.length m=false:=by
 unfold my
 have r0:=h.me.r0
 cases hj:(js K)[(K.r+(A.length:Int)).toNat]? with
 | none=>rfl
 | some j=>
  refine decide_eq_false fun hlt=>?_
  have c1:=zO (bS _) hj (Int.le_refl j)
  rw [show (fj (K.G.map fun g=>g.getD 1 0))=js K from rfl,Eh ho hL,zQ] at c1
  have cA:cj K A j<=A.length:=List.length_filter_le _ _
  have rs:=rise h B A z kp
  have c2:cj K (z::B) j<=wts K (z::B) j:=IT fun p hp=>by
   rcases List.mem_cons.mp hp with rfl | hp
   ·omega
   ·have:=rs p hp;omega
  have c3:wts K (A++z::B) j=wts K A j+wts K (z::B) j:=uz
  have hmem:j ∈ (A++z::B).map fun p=>jn K p.1:=(uy ho hL).mem_iff.mp (List.mem_of_getElem? hj)
  obtain ⟨q,hq,rfl⟩:=List.mem_map.mp hmem
  obtain ⟨i,hi⟩:=List.getElem?_of_mem hq
  have:=(kp i q hi).wt
  omega
theorem zR {P A:List (Int × Int)} {z:Int × Int} {L:List (Int × Int)} {j:Nat} (hl:Low P A) (kz:KAt K L j z) (ht:L.take j=A):bp K (aO K P) z.1<=z.2:=by
 unfold bp
 cases hP:aO K P with
 | none=>exact kz.lo
 | some a=>
  obtain ⟨b,hb,e1,e2⟩:=hl.last a hP
  have:=kz.gap b (by rw [ht];exact hb)
  have:=kz.lo
  dsimp only
  rw [e1]
  split <;> omega
theorem mh (h:SkOk K) {os:List Int} (ho:Ord K os):∀ (B A P:List (Int × Int)),(A++B).map (·.1)=os->jt K (A++B)->Low P A->∃ R,rn K (B.map (·.1)) (aO K P) P = .inr R/\Low R (A++B)
 | [],A,P,_,_,hl=>⟨P,rfl,by rw [List.append_nil];exact hl⟩
 | z::B,A,P,hL,kp,hl=>by
  have kz:=kp A.length z pf
  have fr:=zR hl kz iX
  have m1:opn K.H (bp K (aO K P) z.1)<=z.2:=by
   have:=mf h.me.ris fr
   rw [kz.op] at this
   exact this
  have hs:Sn.step K (aO K P) z.1 P.length=some (opn K.H (bp K (aO K P) z.1)):=by
   unfold Sn.step
   have:=kz.hi
   rw [hl.len,Dj h ho hL kp m1,decide_eq_false (show ¬ gi K.G z.1 3 < opn K.H (bp K (aO K P) z.1) by omega)]
   rfl
  have hh:dD K P z.1 (opn K.H (bp K (aO K P) z.1))=false:=wk hl m1 (by have:=kz.rg;rw [iX] at this;exact this)
  have e:=gf (A:=A) (B:=B) (z:=z)
  obtain ⟨R,e1,e2⟩:=mh h ho B (A++[z]) (P++[(z.1,opn K.H (bp K (aO K P) z.1))]) (by rw [<-e];exact hL) (by rw [<-e];exact kp) (hl.snoc rfl m1)
  refine ⟨R,?_,by rw [e];exact e2⟩
  rw [List.map_cons,rn,hs]
  dsimp only
  rw [hh,if_neg Bool.false_ne_true]
  rw [cT] at e1
  exact e1
theorem qO:∀ (os:List Int) (P R:List (Int × Int)),rn K os (aO K P) P = .inr R->(∃ T,R=P++T/\T.map (·.1)=os)/\∀ (j:Nat) z,P.length<=j->R[j]?=some z->Sn.step K (aO K (R.take j)) z.1 j=some z.2/\dD K (R.take j) z.1 z.2=false
 | [],P,R,h=>by
  cases h
  exact ⟨⟨[],by simp,rfl⟩,fun j z hj hz=>by rw [List.getElem?_eq_none hj] at hz;cases hz⟩
 | g::os,P,R,h=>by
  rw [rn] at h
  cases hs:Sn.step K (aO K P) g P.length with
  | none=>rw [hs] at h;cases h
  | some m=>
   rw [hs] at h
   dsimp only at h
   cases hh:dD K P g m with
   | true=>rw [hh,if_pos rfl] at h;cases h
   | false=>
    rw [hh,if_neg Bool.false_ne_true] at h
    obtain ⟨⟨T,e,et⟩,ih⟩:=qO os (P++[(g,m)]) R (by rw [cT];exact h)
    refine ⟨⟨(g,m)::T,by rw [e,<-gf],by rw [List.map_cons,et]⟩,fun j z hj hz=>?_⟩
    by_cases hjP:j=P.length
    ·subst hjP
     rw [e,<-gf,pf] at hz
     cases hz
     rw [e,<-gf,iX]
     exact ⟨hs,hh⟩
    ·exact ih j z (by rw [List.length_append,List.length_singleton];omega) hz
theorem qP (f:Int × Int->Bool):∀ (R:List (Int × Int)),∃ A B,R=A++B/\(∀ p ∈ A,f p=true)/\(B=[]\/∃ y B',B=y::B'/\f y=false)
 | []=>⟨[],[],rfl,fun p hp=>(by cases hp),.inl rfl⟩
 | z::R=>by
  cases hz:f z with
  | false=>exact ⟨[],z::R,rfl,fun p hp=>(by cases hp),.inr ⟨z,R,rfl,hz⟩⟩
  | true=>
   obtain ⟨A,B,e,h1,h2⟩:=qP f R
   refine ⟨z::A,B,by rw [e];rfl,fun p hp=>?_,h2⟩
   rcases List.mem_cons.mp hp with rfl | hp
   ·exact hz
   ·exact h1 p hp
theorem Dk (h:SkOk K) {g:Int} (g0:0<=g) (g1:g < K.G.length):jn K g+K.s<=gi K.G g 2:=by
 have hi:g.toNat < K.G.length:=by omega
 obtain ⟨kd,jo,fi,la,du,we,ri,eg,hb⟩:=h.gb K.G[g.toNat] (List.getElem_mem hi)
 have e1:jn K g=jo:=by unfold jn gi;rw [gEG hi,eg];rfl
 have e2:gi K.G g 2=fi:=by unfold gi;rw [gEG hi,eg];rfl
 rw [e1,e2];omega
theorem pj {a:Option (Int × Int)} {g m:Int} {j:Nat} (h:Sn.step K a g j=some m):m=opn K.H (bp K a g)/\m<=gi K.G g 3/\my K j m=false:=by
 unfold Sn.step at h
 split at h
 ·cases h
 ·rename_i hc
  cases h
  rw [Bool.or_eq_true,decide_eq_true_eq] at hc
  exact ⟨rfl,by omega,by
   cases e:my K j (opn K.H (bp K a g)) with
   | false=>rfl
   | true=>exact absurd (.inr e) hc⟩
theorem qQ (a:Option (Int × Int)) (g:Int):gi K.G g 2<=bp K a g/\∀ q,a=some q->q.2+gp K q.1 (gi K.G g 0)<=bp K a g:=by
 unfold bp
 cases a with
 | none=>exact ⟨Int.le_refl _,fun q e=>by cases e⟩
 | some q=>
  dsimp only
  refine ⟨by split <;> omega,fun q' e=>?_⟩
  cases e
  split <;> omega
theorem pk (h:SkOk K) {os:List Int} (ho:Ord K os) {R:List (Int × Int)} (hr:rn K os K.ah [] = .inr R):R.map (·.1)=os/\jt K R:=by
 obtain ⟨⟨T,e,et⟩,st⟩:=qO os [] R hr
 rw [List.nil_append] at e
 subst e
 have s0:=h.me.s0
 have r0:=h.me.r0
 have lb:∀ (j:Nat) z,R[j]?=some z->gi K.G z.1 2<=z.2:=fun j z hz=>by
  obtain ⟨e1,_⟩:=pj (st j z (Nat.zero_le _) hz).1
  have:=(qQ (K:=K) (aO K (R.take j)) z.1).1
  have:=pd K.H (bp K (aO K (R.take j)) z.1)
  omega
 have bd:∀ p ∈ R,0<=p.1/\p.1 < K.G.length:=fun p hp=>ho.bd p.1 (by rw [<-et];exact List.mem_map.mpr ⟨p,hp,rfl⟩)
 have ln:R.length=K.G.length:=by rw [<-ho.ln,<-et,List.length_map]
 refine ⟨et,fun j z hz=>?_⟩
 obtain ⟨hs,hh⟩:=st j z (Nat.zero_le _) hz
 obtain ⟨e1,e2,_⟩:=pj hs
 have fg:=qQ (K:=K) (aO K (R.take j)) z.1
 have og:=pd K.H (bp K (aO K (R.take j)) z.1)
 refine ⟨lb j z hz,e2,by rw [e1];exact qN h.me.ris,fun a ha=>by have:=fg.2 a ha;omega,?_,hh⟩
 generalize jn K z.1=t
 obtain ⟨A,B,eR,hA,hB⟩:=qP (fun p=>decide (p.2 - K.s<=t)) R
 have wA:wts K A t=0:=by
  unfold Sn.wts
  rw [List.length_eq_zero_iff,List.filter_eq_nil_iff]
  intro p hp
  have:=of_decide_eq_true (hA p hp)
  simp only [aA,bAE,decide_eq_true_eq]
  omega
 rw [eR,uz,wA,Nat.zero_add]
 rcases hB with rfl | ⟨y,B',rfl,hy⟩
 ·exact r0
 ·have hy':¬ y.2 - K.s<=t:=of_decide_eq_false hy
  have ya:R[A.length]?=some y:=by rw [eR];exact pf
  obtain ⟨_,_,hl⟩:=pj (st A.length y (Nat.zero_le _) ya).1
  have cA:cj K A t=A.length:=by
   unfold cj
   congr 1
   refine List.filter_eq_self.mpr fun p hp=>decide_eq_true ?_
   have hpR:p ∈ R:=by rw [eR];exact List.mem_append_left _ hp
   obtain ⟨i,hi⟩:=List.getElem?_of_mem hpR
   have:=lb i p hi
   have:=Dk h (bd p hpR).1 (bd p hpR).2
   have:=of_decide_eq_true (hA p hp)
   omega
  have cR:cj K R t=A.length+cj K (y::B') t:=by rw [eR,zQ,cA]
  have le:cj K R t<=(K.r+(A.length:Int)).toNat:=by
   unfold my at hl
   cases hj:(js K)[(K.r+(A.length:Int)).toNat]? with
   | none=>
    have:=List.getElem?_eq_none_iff.mp hj
    rw [zA] at this
    have:=List.length_filter_le (fun p:Int × Int=>decide (jn K p.1<=t)) R
    have:cj K R t<=R.length:=this
    omega
   | some x=>
    rw [hj] at hl
    have:=of_decide_eq_false hl
    rw [<-Eh ho et]
    exact zN (bS _) hj (by omega)
  have:=IS (K:=K) (B:=y::B') (t:=t)
  omega
end Lw
namespace Lw
open PySem Ev Sn
variable {p:Nat} {S:Sto} {k:Nat} {Q:D->Sto->Prop} {K:Sky}
theorem IU {n:Nat} {ds:List D} {tg:Tg} {b:XS} {ρ:Rho} {Q:Fl->Rho->Sto->Prop} (hl:ds.length<=100000) (I:Nat->Rho->Sto->Prop) (hI:∀ i ρ S',I i ρ S'->S'[n]?=some (.lst ds))
  (step:∀ (i:Nat) d ρ S',ds[i]?=some d->I i ρ S'->∃ ρ1,ao tg (.tup [.int i,d]) ρ=some ρ1/\OkS (b ρ1 S') fun fl ρ2 S2=>match fl with | .nx=>I (i+1) ρ2 S2 | .ct=>I (i+1) ρ2 S2 | .bk=>Q .nx ρ2 S2 | .rt d=>Q (.rt d) ρ2 S2)
  (q:∀ ρ S',I ds.length ρ S'->Q .nx ρ S') (h0:I 0 ρ S):OkS (dX (xR n) tg b LF 0 ρ S) Q:=by
 refine iQ ds.length I (by unfold LF;omega) (fun i ρ S' hi iv=>?_) (fun ρ S' iv=>⟨?_,q ρ S' iv⟩) h0
 ·obtain ⟨ρ1,e2,z⟩:=step i ds[i] ρ S' (gEG hi) iv
  refine ⟨.tup [.int i,ds[i]],ρ1,?_,e2,z⟩
  show (aj S' n).bind (fun ds=>enm ds i)=_
  rw [au (hI i ρ S' iv)]
  show enm ds i=_
  unfold enm
  rw [if_pos (by omega),gEG hi];rfl
 ·show (aj S' n).bind (fun ds'=>enm ds' ds.length)=_
  rw [au (hI _ ρ S' iv)]
  show enm ds ds.length=_
  unfold enm
  rw [if_pos (Nat.le_refl _),List.getElem?_eq_none (Nat.le_refl _)];rfl
theorem oU {a b:Nat} {xs:List Int} (ha:S[a]?=some (.lst (xs.map D.int))) (hb:S[b]?=some (.lst (xs.map D.int))) (hn:a ≠ b):av .ne (.ref a) (.ref b) S=some (.bl false,S):=by
 have:eqD 60 S (.ref a) (.ref b)=some true:=by
  show (match aj S a,aj S b with
   | some xs,some ys=>if a=b then some true else if xs.length=ys.length then eqL (eqD 59 S) xs ys else some false
   | _,_=>none)=some true
  rw [au ha,au hb]
  dsimp only
  rw [if_neg hn,if_pos rfl,iV]
 simp only [av,neS]
 rw [this];rfl
theorem Dl (xs:List Int):av .ne (.tup (xs.map D.int)) (.tup (xs.map D.int)) S=some (.bl false,S):=by
 have:eqD 60 S (.tup (xs.map D.int)) (.tup (xs.map D.int))=eqL (eqD 59 S) (xs.map D.int) (xs.map D.int):=rfl
 simp only [av,neS]
 rw [this,iV];rfl
theorem zS {xs ys:List D} (h:Ok (av .ne (.tup xs) (.tup ys) S) Q):qx .ne xs (.tup ys) S Q:=by
 cases ys with
 | nil=>rw [uh,am] at h;exact h
 | cons y ys=>exact h
theorem zT {os:List Int} (ho:Ord K os):fj os=(List.range K.G.length).map fun i=>Int.ofNat i:=by
 refine List.Perm.eq_of_pairwise (le:=(·<=·)) (fun a b _ _ h1 h2=>Int.le_antisymm h1 h2) (bS os) ?_ ((bJ os).trans ho.pm)
 refine List.pairwise_map.mpr (List.pairwise_lt_range.imp fun h=>?_)
 exact Int.ofNat_le.mpr (Nat.le_of_lt h)
theorem Dm {i j l:Nat} {a b c:D} {ρ:Rho} (h1:i < ρ.length) (h2:j < ρ.length) (h3:l < ρ.length):ao (.tup [.name i,.tup [.name j,.name l]]) (.tup [a,.tup [b,c]]) ρ=some (((ρ.set i (some a)).set j (some b)).set l (some c)):=by
 have e:=ce (i:=j) (j:=l) (a:=b) (b:=c) (ρ:=ρ.set i (some a)) (by rw [List.length_set];exact h2) (by rw [List.length_set];exact h3)
 rw [oV,bI,if_pos h1,aF,e]
 dsimp only
 rw [ka]
theorem nB {L:List (Int × Int)} {i:Nat} {z:Int × Int} (h:L[i]?=some z):L.take (i+1)=L.take i++[z]:=by
 obtain ⟨hi,e⟩:=List.getElem?_eq_some_iff.mp h
 rw [List.take_succ_eq_append_getElem hi,e]
theorem qR (V:Vd K) {L:List (Int × Int)} {n:Nat} (hn:S[n]?=some (.lst (L.map ac))) (hL:InG K L) (hl:L.length<=7) (q:∀ b S',Sm S S'->(b=true ↔ jt K L)->Q (.bl b) S') :
  rW (wSs (evC ag (k+2)) (fN ag) 58 (dB.drop 2)) [some (skE K),some (.ref n),none,none,none,none,none,none,none,none,none,none,none] S (out Q):=by
 dsimp only [dB,List.drop]
 k_is
 refine aa sk1 ?_
 k_is
 refine ⟨by rw [au hn];rfl,?_⟩
 refine IU (by rw [List.length_map];omega) (fun i ρ S'=>Sm S S'/\(∃ u3 u4 u5 u6 u7 u8 u9 u10 u11 u12,ρ=[some (skE K),some (.ref n),some (ahE (aO K (L.take i))),u3,u4,u5,u6,u7,u8,u9,u10,u11,u12])/\∀ (j:Nat) z,j < i->L[j]?=some z->KAt K L j z) (fun i ρ S' iv=>iv.1 _ _ hn) (fun i d ρ S1 hd ⟨s1,⟨u3,u4,u5,u6,u7,u8,u9,u10,u11,u12,er⟩,kp⟩=>?_) (fun ρ S1 ⟨s1,⟨u3,u4,u5,u6,u7,u8,u9,u10,u11,u12,er⟩,kp⟩=>?_) ⟨Sm.refl S,⟨_,_,_,_,_,_,_,_,_,_,rfl⟩,fun j z hj=>absurd hj (Nat.not_lt_zero j)⟩
 ·subst er
  obtain ⟨z,hz,rfl⟩:=f9 hd
  obtain ⟨g0,g1⟩:=hL z (List.mem_of_getElem? hz)
  obtain ⟨a0,b,c,d,e,f,h,eg,e0,e1,e2,e3,e6,k0,k1,c0⟩:=gl7 V g0 g1
  have hn1:=s1 _ _ hn
  have no:∀ S',Sm S S'->¬ KAt K L i z->Q (.bl false) S':=fun S' s' nk=>q false S' s' ⟨fun x=>(by cases x),fun kk=>absurd (kk i z hz) nk⟩
  refine ⟨_,show ao (.tup [.name 3,.tup [.name 4,.name 5]]) (.tup [.int i,.tup [.int z.1,.int z.2]]) _=_ from Dm (by simp) (by simp) (by simp),?_⟩
  k_is
  refine aa sk2 (aa (gQ g0 eg) ?_)
  rw [show aJ [a0,b,c,d,e,f,h] = .tup [.int a0,.int b,.int c,.int d,.int e,.int f,.int h] from rfl]
  k_is
  cases c1:decide (c<=z.2) with
  | false=>
   k_is
   exact no S1 s1 fun kz=>by have:=kz.lo;have:=of_decide_eq_false c1;omega
  | true=>
  k_is
  cases c2:decide (z.2<=d) with
  | false=>
   k_is
   exact no S1 s1 fun kz=>by have:=kz.hi;have:=of_decide_eq_false c2;omega
  | true=>
  k_is
  refine aa sk0 (aa me3 ?_)
  refine ⟨rfl,zD V.h4 ?_⟩
  k_is
  cases c3:decide (opn K.H z.2=z.2) with
  | false=>
   k_is
   exact no S1 s1 fun kz=>absurd kz.op (of_decide_eq_false c3)
  | true=>
  k_is
  have rest:(∀ a,aO K (L.take i)=some a->a.2+gp K a.1 a0<=z.2)->rW (wSs (evC ag (k+2)) (fN ag) 52 [.ifs (.or (.cmp .gt (.len (.call dq [(.var 0),(.var 1),(.var 7)])) (.ix (.ix (.var 0) (.int 0)) (.int 0))) (.chn .lt .lt (.int 0) (.var 12) (.call g6 [(.var 0),(.sl (.var 1) none (some (.var 3))),(.var 4),(.var 5)]))) [.ret (.bl false)] [],.asg (.name 2) (.tup [(.var 6),(.var 5)])]) [some (skE K),some (.ref n),some (ahE (aO K (L.take i))),some (.int i),some (.int z.1),some (.int z.2),some (.int a0),some (.int b),some (.int c),some (.int d),some (.int e),some (.int f),some (.int h)] S1 (fun fl ρ2 S2=>match fl with
    | .nx=>Sm S S2/\(∃ u3 u4 u5 u6 u7 u8 u9 u10 u11 u12,ρ2=[some (skE K),some (.ref n),some (ahE (aO K (L.take (i+1)))),u3,u4,u5,u6,u7,u8,u9,u10,u11,u12])/\∀ (j:Nat) z,j < i+1->L[j]?=some z->KAt K L j z
    | .ct=>Sm S S2/\(∃ u3 u4 u5 u6 u7 u8 u9 u10 u11 u12,ρ2=[some (skE K),some (.ref n),some (ahE (aO K (L.take (i+1)))),u3,u4,u5,u6,u7,u8,u9,u10,u11,u12])/\∀ (j:Nat) z,j < i+1->L[j]?=some z->KAt K L j z
    | .bk=>False
    | .rt d=>Q d S2):=fun hg=>by
   k_is
   refine ⟨rfl,nv V hn1 hL (by omega) fun N ds S2 s2 hN hd=>?_⟩
   refine aa (cE hN) ?_
   refine aa sk0 (aa me0 ?_)
   k_is
   rw [hd]
   have ej:jn K z.1=b:=e1
   cases c4:decide (K.r < (wts K L b:Int)) with
   | true=>
    k_is
    exact no S2 (s1.trans s2) fun kz=>by have:=kz.wt;rw [ej] at this;have:=of_decide_eq_true c4;omega
   | false=>
   k_is
   have fin:∀ S3,Sm S S3->dD K (L.take i) z.1 z.2=false->Sm S S3/\(∃ u3 u4 u5 u6 u7 u8 u9 u10 u11 u12,[some (skE K),some (D.ref n),some (D.tup [D.int a0,D.int z.2]),some (D.int i),some (D.int z.1),some (D.int z.2),some (D.int a0),some (D.int b),some (D.int c),some (D.int d),some (D.int e),some (D.int f),some (D.int h)]=[some (skE K),some (.ref n),some (ahE (aO K (L.take (i+1)))),u3,u4,u5,u6,u7,u8,u9,u10,u11,u12])/\∀ (j:Nat) z,j < i+1->L[j]?=some z->KAt K L j z:=fun S3 s3 hh=>by
    refine ⟨s3,⟨_,_,_,_,_,_,_,_,_,_,by rw [nB hz,cT,e0];rfl⟩,fun j y hj hy=>?_⟩
    by_cases hji:j=i
    ·subst hji
     rw [hz] at hy
     cases hy
     exact ⟨by rw [e2];exact of_decide_eq_true c1,by rw [e3];exact of_decide_eq_true c2,of_decide_eq_true c3,fun a ha=>by rw [e0];exact hg a ha,by rw [ej];have:=of_decide_eq_false c4;omega,hh⟩
    ·exact kp j y (by omega) hy
   have eh:dD K (L.take i) z.1 z.2=(decide (0 < h) && decide (h < l8 K (L.take i) z.1 z.2)):=by unfold dD;rw [e6]
   cases c5:decide (0 < h) with
   | false=>
    k_is
    exact fin S2 (s1.trans s2) (by rw [eh,c5];rfl)
   | true=>
   k_is
   refine aa (o7 (s2 _ _ hn1)) ?_
   have s3:Sm S2 (S2++[Ob.lst ((L.map ac).take i)]):=Sm.app _ _
   have a3:(S2++[Ob.lst ((L.map ac).take i)])[List.length S2]?=some (Ob.lst ((L.take i).map ac)):=by rw [aD,List.map_take]
   generalize List.length S2=N3 at *
   generalize S2++[Ob.lst ((L.map ac).take i)]=S3 at *
   refine ⟨rfl,zE V a3 (fun y hy=>hL y (List.mem_of_mem_take hy)) (by rw [List.length_take];omega) g0 g1 fun S4 s4=>?_⟩
   k_is
   have sA:=((s1.trans s2).trans s3).trans s4
   cases c6:decide (h < l8 K (L.take i) z.1 z.2) with
   | true=>
    k_is
    exact no S4 sA fun kz=>by have:=kz.rg;rw [eh,c5,c6] at this;cases this
   | false=>
    k_is
    exact fin S4 sA (by rw [eh,c5,c6];rfl)
  cases hA:aO K (L.take i) with
  | none=>
   rw [hA] at rest
   refine aa (show av .isnot (ahE none) .non S1=some (.bl false,S1) from rfl) ?_
   k_is
   exact rest fun a ha=>by cases ha
  | some y=>
   rw [hA] at rest
   obtain ⟨y0,y1⟩:=qJ V (L:=L.take i) (fun y hy=>hL y (List.mem_of_mem_take hy)) y hA
   refine aa (show av .isnot (ahE (some y)) .non S1=some (.bl true,S1) from rfl) ?_
   k_is
   refine aa (show ixS (ahE (some y)) (.int 1) S1=some (.int y.2,S1) from rfl) ?_
   refine aa sk0 (aa me2 (aa (show ixS (ahE (some y)) (.int 0) S1=some (.int y.1,S1) from rfl) ?_))
   obtain ⟨r,h1,h2⟩:=zy (S:=S1) V y0 y1 k0 k1
   refine aa h1 (aa h2 ?_)
   k_is
   cases c7:decide (z.2 < y.2+gp K y.1 a0) with
   | true=>
    k_is
    exact no S1 s1 fun kz=>by have:=kz.gap y hA;rw [e0] at this;have:=of_decide_eq_true c7;omega
   | false=>
    k_is
    exact rest fun a ha=>by cases ha;have:=of_decide_eq_false c7;omega
 ·subst er
  k_is
  refine q true S1 s1 ⟨fun _ j z hz=>kp j z ?_ hz,fun _=>rfl⟩
  rw [List.length_map]
  exact (List.getElem?_eq_some_iff.mp hz).1
end Lw
namespace Lw
open PySem Ev Sn
variable {p:Nat} {S:Sto} {k:Nat} {Q:D->Sto->Prop} {K:Sky}
theorem uA {α:Type} {l:List α} {E:α->D} {S:Sto}:ad bx (.tup (l.map E)) S=some (.int l.length,S):=by simp only [ad,ak,bx,List.length_map]
theorem ju (V:Vd K) {os:List Int} (ho:Ord K os) {L:List (Int × Int)} {n:Nat} (hn:S[n]?=some (.lst (L.map ac))) (hL:L.map (·.1)=os) (q:∀ b S',Sm S S'->(b=true ↔ jt K L)->Q (.bl b) S'):Ok (evC ag (k+3) dr [skE K,.ref n] S) Q:=by
 refine aE (d:=f7) (ρ:=[some (skE K),some (.ref n),none,none,none,none,none,none,none,none,none,none,none]) rfl rfl ?_
 have g7:=V.g7
 have ln:=ho.ln
 have lL:L.length=os.length:=by rw [<-hL,List.length_map]
 have lF:K.F.length<=os.length:=by obtain ⟨r,e⟩:=ho.fx;rw [e,List.length_append];omega
 have inG:InG K L:=fun z hz=>ho.bd z.1 (by rw [<-hL];exact List.mem_map.mpr ⟨z,hz,rfl⟩)
 have loop:=fun (S1:Sto) (h1:S1[n]?=some (.lst (L.map ac))) (q1:∀ b S',Sm S1 S'->(b=true ↔ jt K L)->Q (.bl b) S')=>qR (k:=k) (Q:=Q) V h1 inG (by omega) q1
 dsimp only [dB,List.drop] at loop
 dsimp only [f7,dB]
 have e1:(L.map fun z=>D.int z.1)=os.map D.int:=by rw [<-hL,List.map_map];rfl
 k_is
 refine ⟨by rw [au hn];rfl,?_⟩
 refine bn L ac (fun z=>[.int z.1]) (by omega) (fun _ _=>Nat.le_refl _) (dN hn) (fun i z S' hz sm=>⟨_,show ao (.tup [.name 13,.name 14]) (.tup [.int z.1,.int z.2]) _=_ from ce (by simp) (by simp),?_⟩) fun S1 s1=>?_
 ·k_is
  exact ⟨rfl,Sm.refl _⟩
 ·rw [bC,e1]
  refine ⟨_,qG (by omega),?_⟩
  rw [zT ho]
  refine aa sk2 ?_
  refine aa uA ?_
  refine ⟨K.G.length,rfl,by omega,?_⟩
  have em:((List.range K.G.length).map fun j=>D.int (Int.ofNat j))=((List.range K.G.length).map fun i=>Int.ofNat i).map D.int:=by rw [List.map_map];rfl
  rw [em]
  refine aa (oU (xs:=(List.range K.G.length).map fun i=>Int.ofNat i) (by rw [List.getElem?_append_left (by simp),aD]) aD (by simp)) ?_
  k_is
  have s2:Sm S1 (S1++[Ob.lst (((List.range K.G.length).map fun i=>Int.ofNat i).map D.int)]++[Ob.lst (((List.range K.G.length).map fun i=>Int.ofNat i).map D.int)]):=(Sm.app _ _).trans (Sm.app _ _)
  generalize S1++[Ob.lst (((List.range K.G.length).map fun i=>Int.ofNat i).map D.int)]++[Ob.lst (((List.range K.G.length).map fun i=>Int.ofNat i).map D.int)]=S2 at *
  have hn2:=s2 _ _ (s1 _ _ hn)
  refine ⟨by rw [au hn2];rfl,?_⟩
  refine bn L ac (fun z=>[.int z.1]) (by omega) (fun _ _=>Nat.le_refl _) (dN hn2) (fun i z S' hz sm=>⟨_,show ao (.tup [.name 13,.name 14]) (.tup [.int z.1,.int z.2]) _=_ from ce (by simp) (by simp),?_⟩) fun S3 s3=>?_
  ·k_is
   exact ⟨rfl,Sm.refl _⟩
  ·rw [bC,e1]
   refine aa (show b7 false (os.map D.int) S3=some (.tup (os.map D.int),S3) from rfl) ?_
   k_is
   refine aa sk3 ?_
   refine aa uA ?_
   k_is
   refine aa sk3 ?_
   obtain ⟨r,er⟩:=ho.fx
   have hc:gC (os.map D.int) none (some (K.F.length:Int))=K.F.map D.int:=by
    rw [iu _ _ (by rw [List.length_map];omega),<-List.map_take,er,List.take_left]
   rw [hc]
   refine zS (aa (Dl K.F) ?_)
   k_is
   exact loop S3 (s3 _ _ hn2) fun b S' s' hb=>q b S' (((s1.trans s2).trans s3).trans s') hb
end Lw
namespace Lw
open PySem Ev Sn
variable {p:Nat} {S:Sto} {k:Nat} {Q:D->Sto->Prop} {K:Sky}
theorem pw (x y:Str) (S:Sto):av .eq (.str x) (.str y) S=some (.bl (x == y),S):=by
 simp only [av,eqS]
 have:eqD 60 S (.str x) (.str y)=some (x == y):=rfl
 rw [this];rfl
theorem IV {n m:Nat} {R L:List (Int × Int)} (h1:S[n]?=some (.lst (R.map ac))) (h2:S[m]?=some (.lst (L.map ac))):∀ i S',Sm S S'->nxZ n m i S'=some (((R.zip L)[i]?).map fun z=>D.tup [ac z.1,ac z.2]):=fun i S' sm=>by
 show ((aj S' n).bind fun xs=>(aj S' m).map fun ys=>zp xs ys i)=_
 rw [au (sm _ _ h1),au (sm _ _ h2)]
 show some (zp (R.map ac) (L.map ac) i)=_
 unfold zp List.zip
 rw [List.getElem?_map,List.getElem?_map,List.getElem?_zipWith]
 cases R[i]? <;> cases L[i]? <;> rfl
theorem qS (sk:SkOk K) {os:List Int} (ho:Ord K os) {R L:List (Int × Int)} (hr:rn K os K.ah [] = .inr R) (hL:L.map (·.1)=os) (kp:jt K L):Low R L:=by
 obtain ⟨R',e,hl⟩:=mh sk ho L [] [] (by rw [List.nil_append];exact hL) (by rw [List.nil_append];exact kp) .nil
 rw [hL] at e
 have:rn K os (aO K []) [] = .inr R:=hr
 rw [this] at e
 cases e
 rw [List.nil_append] at hl
 exact hl
theorem IW (h:Pot p S) (sk:SkOk K) (q:∀ S',Dr p S S'->Q (.bl true) S'):Ok (evC ag (k+12) fo [.ref p,skE K] S) Q:=by
 refine aE (d:=cy) (ρ:=[some (.ref p),some (skE K),none,none,none]) rfl rfl ?_
 dsimp only [cy,fu]
 have V:=sk.vd
 have g7:=sk.g7
 k_is
 refine ⟨rfl,nA (k:=k+8) h sk fun os S1 d1 ho=>?_⟩
 k_is
 have ln:=ho.ln
 refine ⟨rfl,ma (k:=k+2) V sk.sky ho fun d S2 s2 rs=>?_⟩
 k_is
 unfold Res at rs
 have lt1:=d1.pot.lt
 cases hr:rn K os K.ah [] with
 | inl j=>
  rw [hr] at rs
  subst rs
  refine aa (show ixS (D.tup [.str "stuck", .int (j:Int)]) (.int 0) S2=some (.str "stuck", S2) from rfl) ?_
  k_is
  refine aa (pw _ _ _) ?_
  rw [show ((("stuck" : Str)) == "stuck")=true from rfl]
  k_is
  exact q S2 (d1.thenSm s2)
 | inr R=>
  rw [hr] at rs
  obtain ⟨n,rfl,hn,hb⟩:=rs
  obtain ⟨eR,kR⟩:=pk sk ho hr
  have lR:R.length=os.length:=by rw [<-eR,List.length_map]
  have i1:∀ S,ixS (D.tup [.str "lands", .ref n]) (.int 1) S=some (.ref n,S):=fun _=>rfl
  refine aa (show ixS (D.tup [.str "lands", .ref n]) (.int 0) S2=some (.str "lands", S2) from rfl) ?_
  k_is
  refine aa (pw _ _ _) ?_
  rw [show ((("lands" : Str)) == "stuck")=false by decide]
  k_is
  refine aa (i1 S2) ?_
  refine ⟨rfl,ju (k:=k+8) V ho hn eR fun b S3 s3 hb'=>?_⟩
  obtain rfl:b=true:=hb'.mpr kR
  k_is
  have d3:=(d1.thenSm s2).thenSm s3
  have hn3:=s3 _ _ hn
  have np:n ≠ p:=by omega
  refine aa (i1 S3) ?_
  k_is
  refine ⟨by rw [au hn3];rfl,?_⟩
  have lm:(R.map ac).length=R.length:=List.length_map _
  refine oX R.length (fun i=>((R.map ac)[i]?).getD .non) (fun i acc S'=>Dr p S3 S'/\∃ L:List (Int × Int),acc=L.map ac/\L.map (·.1)=(R.take i).map (·.1)) (fun i acc S' hi ⟨d,_⟩=>by rw [<-lm];exact oY (d.kp _ _ np hn3) _ uv) (by omega) (fun i acc S4 hi ⟨d4,L,ea,eL⟩=>?_) (fun es S4 ⟨d4,L,ea,eL⟩=>?_) ⟨Dr.refl d3.pot,[],rfl,rfl⟩
  ·have hz:R[i]?=some R[i]:=gEG hi
   have ez:((R.map ac)[i]?).getD .non = .tup [.int R[i].1,.int R[i].2]:=by rw [List.getElem?_map,hz];rfl
   rw [ez]
   refine ⟨_,ce (by simp) (by simp),?_⟩
   k_is
   refine ⟨rfl,aB d4.pot (by decide) (by decide) fun x S5 x1 x2 d5=>?_⟩
   refine ⟨rfl,aB d5.pot (by decide) (by decide) fun y S6 y1 y2 d6=>?_⟩
   k_is
   refine ⟨kb (by omega) (by omega),(d4.trans d5).trans d6,L++[(R[i].1,R[i].2+x * y)],by rw [ea,List.map_append];rfl,?_⟩
   rw [List.map_append,eL,nB hz,List.map_append];rfl
  ·subst ea
   rw [List.take_length] at eL
   have lL:L.length=R.length:=by have:=congrArg List.length eL;rw [List.length_map,List.length_map] at this;exact this
   refine ⟨by rw [List.length_map];omega,?_⟩
   k_is
   have s5:Sm S4 (S4++[Ob.lst (L.map ac)]):=Sm.app _ _
   have a5:(S4++[Ob.lst (L.map ac)])[List.length S4]?=some (.lst (L.map ac)):=aD
   have hn5:=s5 _ _ (d4.kp _ _ np hn3)
   generalize S4++[Ob.lst (L.map ac)]=S5 at *
   generalize List.length S4=N at *
   have d5:=(d3.trans d4).thenSm s5
   refine ⟨rfl,ju (k:=k+8) V ho a5 (eL.trans eR) fun b S6 s6 hb6=>?_⟩
   cases b with
   | false=>
    k_is
    exact q S6 (d5.thenSm s6)
   | true=>
    k_is
    have low:=qS sk ho hr (eL.trans eR) (hb6.mp rfl)
    refine aa (i1 S6) ?_
    have hn6:=s6 _ _ hn5
    have a6:=s6 _ _ a5
    refine ⟨n,N,rfl,rfl,⟨by rw [au hn6];rfl,by rw [au a6];rfl⟩,?_⟩
    refine bn (R.zip L) (fun z=>D.tup [ac z.1,ac z.2]) (fun _=>[D.bl true]) (by rw [List.length_zip];omega) (fun _ _=>Nat.le_refl _) (IV hn6 a6) (fun i z S' hz sm=>⟨_,ce (by simp) (by simp),?_⟩) fun S7 s7=>?_
    ·k_is
     refine aa (show ixS (ac z.1) (.int 1) S'=some (.int z.1.2,S') from rfl) (aa (show ixS (ac z.2) (.int 1) S'=some (.int z.2.2,S') from rfl) ?_)
     k_is
     have hh:R[i]?=some z.1/\L[i]?=some z.2:=by
      unfold List.zip at hz
      rw [List.getElem?_zipWith] at hz
      cases e1:R[i]? <;> cases e2:L[i]? <;> rw [e1,e2] at hz <;> cases hz
      exact ⟨rfl,rfl⟩
     rw [decide_eq_true (low.get i _ _ hh.1 hh.2)]
     exact ⟨rfl,Sm.refl _⟩
    ·rw [bC]
     refine aa (bZ _ _ _) ?_
     rw [show ((R.zip L).all fun _=>true)=true by simp]
     k_is
     exact q S7 ((d5.thenSm s6).thenSm s7)
end Lw
namespace Lw
open PySem Ev Sn L2
variable {p:Nat} {S:Sto} {k:Nat} {Q:D->Sto->Prop} {K:Sky}
theorem zU:∀ {H:List (Int × Int)} {lo lo':Int},lo'<=lo->Ris lo H->Ris lo' H
 | [],_,_,_,_=>trivial
 | p::H,lo,lo',h,r=>by
  rw [Ris] at r ⊢
  exact ⟨by omega,r.2⟩
theorem mi (f:Int × Int->Bool):∀ {H:List (Int × Int)} {lo:Int},Ris lo H->Ris lo (H.filter f)
 | [],_,_=>trivial
 | p::H,lo,r=>by
  rw [Ris] at r
  rw [List.filter_cons]
  have ih:=mi f r.2.2
  split
  ·rw [Ris];exact ⟨r.1,r.2.1,ih⟩
  ·exact zU (by omega) ih
theorem zV {a b c d e f g:D} {ρ:Rho} (h:13<=ρ.length):ao (.tup [.name 6,.name 7,.name 8,.name 9,.name 10,.name 11,.name 12]) (.tup [a,b,c,d,e,f,g]) ρ=some (((((((ρ.set 6 (some a)).set 7 (some b)).set 8 (some c)).set 9 (some d)).set 10 (some e)).set 11 (some f)).set 12 (some g)):=by
 rw [oV,bI,if_pos (by omega),bI,if_pos (by simp only [List.length_set];omega),bI,if_pos (by simp only [List.length_set];omega),bI,if_pos (by simp only [List.length_set];omega),bI,if_pos (by simp only [List.length_set];omega),bI,if_pos (by simp only [List.length_set];omega),bI,if_pos (by simp only [List.length_set];omega),ka]
structure NM (n:Nat) (M:List (List Int)):Prop where
 len:M.length=n
 row:∀ r ∈ M,r.length=n
 ent:(∀ r ∈ M,∀ x ∈ r,1<=x/\x<=2)\/∀ r ∈ M,∀ x ∈ r,2<=x/\x<=3
theorem NM.mat {n:Nat} {M:List (List Int)} (h:NM n M):Dw.Mat n M:=⟨h.len,h.row,fun r hr x hx=>by
 rcases h.ent with e | e
 ·have:=e r hr x hx;omega
 ·have:=e r hr x hx;omega⟩
theorem NM.tri {n:Nat} {M:List (List Int)} (h:NM n M):Dw.kx n n M:=fun a b q ha hb hq=>by
 have at_:∀ i j,i < n->j < n->∃ r ∈ M,Dw.mg2 M i j ∈ r:=fun i j hi hj=>by
  obtain ⟨r,e1,_,e2,_⟩:=h.mat.at hi hj
  exact ⟨r,List.mem_of_getElem? e1,List.mem_of_getElem? e2⟩
 obtain ⟨r1,m1,x1⟩:=at_ a b ha hb
 obtain ⟨r2,m2,x2⟩:=at_ a q ha hq
 obtain ⟨r3,m3,x3⟩:=at_ q b hq hb
 rcases h.ent with e | e
 ·have:=e r1 m1 _ x1;have:=e r2 m2 _ x2;have:=e r3 m3 _ x3;omega
 ·have:=e r1 m1 _ x1;have:=e r2 m2 _ x2;have:=e r3 m3 _ x3;omega
theorem qT {M:List (List Int)} {f:Int->Int} {nx:Nxt} {c:XA} {tg:Tg} {ρ:Rho} {Q:List D->Sto->Prop} (hl:M.length<=4) (hnx:∀ i S',Sm S S'->nx i S'=some ((M[i]?).map aJ))
  (step:∀ r S',r ∈ M->Sm S S'->∃ ρ1,ao tg (aJ r) ρ=some ρ1/\Ok (c ρ1 S') fun es S1=>es=[aJ (r.map f)]/\Sm S' S1) (q:∀ S',Sm S S'->Q ((M.map fun r=>r.map f).map aJ) S') :
  Ok (aX nx tg c ρ LF 0 S) fun es S2=>es.length<=100000/\Q es S2:=by
 refine bn M aJ (fun r=>[aJ (r.map f)]) (by omega) (fun _ _=>Nat.le_refl _) hnx (fun i r S' hr sm=>step r S' (List.mem_of_getElem? hr) sm) fun S' sm=>?_
 rw [bC]
 have:=q S' sm
 rw [List.map_map] at this
 exact this
theorem zW {u5 u6 u7 u8 u9 u10 u11 u12:Option D} {G:List (List Int)} {M:List (List Int)} {N:Nat} (h:Pot p S) (sk:SkOk K) (hM:NM K.M.length M) (g7:G.length<=3) (lG:G.length=K.G.length) (hN:S[N]?=some (.lst (G.map aJ)))
  (gb:∀ (j:Nat) g,G[j]?=some g->GB K.M.length (K.r % 3) K.s g/\(g.getD 6 0=0\/(j:Int) ∈ K.F)/\g.getD 3 0<=g.getD 2 0+8)
  (q:∀ K' S',Dr p S S'->SkOk K'->K'.G.length<=3->(∀ g ∈ K'.G,g.getD 3 0<=g.getD 2 0+8)->Q (skE K') S') :
  rW (wSs (evC ag (k+4)) (fN ag) 54 (cN.drop 6)) [some (.ref p),some (meE K),some (ahE K.ah),some (.tup (K.G.map aJ)),some (.tup (K.F.map D.int)),some (.ref N),u6,u7,u8,u9,u10,u11,u12,some (.tup (M.map aJ)),none] S (out Q):=by
 dsimp only [cN,List.drop]
 have h4:=sk.me.h4
 k_is
 refine aa me3 ?_
 k_is
 refine bn K.H ac (fun z=>if decide (z.2 < 40)=true then [ac z] else []) (by omega) (fun z _=>by split <;> simp) ie (fun i z S' hz sm=>⟨_,show ao (.tup [.name 15,.name 16]) (.tup [.int z.1,.int z.2]) _=_ from ce (by simp) (by simp),?_⟩) fun S1 s1=>?_
 ·k_is
  cases decide (z.2 < 40) with
  | true=>k_is;exact ⟨rfl,Sm.refl _⟩
  | false=>k_is;exact ⟨rfl,Sm.refl _⟩
 ·rw [bD]
  refine aa (show b7 false ((K.H.filter fun z=>decide (z.2 < 40)).map ac) S1=some (.tup ((K.H.filter fun z=>decide (z.2 < 40)).map ac),S1) from rfl) ?_
  k_is
  refine aa me0 ?_
  k_is
  refine ⟨by decide,?_⟩
  refine aa me1 ?_
  have hN1:=s1 _ _ hN
  refine aa (show ad b7 (.ref N) S1=some (.tup (G.map aJ),S1) by simp only [ad,ak,au hN1,Option.map_some,b7]) ?_
  k_is
  have r0:=sk.me.r0
  have me:MeOk (K.r % 3) K.s M (K.H.filter fun z=>decide (z.2 < 40)):=by
   refine ⟨by omega,by omega,sk.me.s0,sk.me.s60,by rw [hM.len];exact hM.mat,by rw [hM.len];exact sk.me.m1,by rw [hM.len];exact sk.me.m4,by rw [hM.len];exact hM.tri,mi _ sk.me.ris,Nat.le_trans (List.length_filter_le _ _) h4,fun q hq=>sk.me.hb q (List.mem_filter.mp hq).1⟩
  refine q ⟨K.r % 3,K.s,M,K.H.filter fun z=>decide (z.2 < 40),K.ah,G,K.F⟩ S1 (Dr.sm h s1) ⟨me,by show G.length<=7;omega,fun g hg=>?_,sk.nd,fun x hx=>?_,fun j g hg=>(gb j g hg).2.1,fun z hz=>?_⟩ g7 fun g hg=>?_
  ·obtain ⟨j,hj⟩:=List.getElem?_of_mem hg
   show GB M.length (K.r % 3) K.s g
   rw [hM.len]
   exact (gb j g hj).1
  ·have:=sk.bd x hx
   show 0<=x/\x < G.length
   rw [lG];exact this
  ·have:=sk.ah z hz
   show 0<=z.1/\z.1 < M.length/\0<=z.2/\z.2<=9999
   rw [hM.len];exact this
  ·obtain ⟨j,hj⟩:=List.getElem?_of_mem hg
   exact (gb j g hj).2.2
end Lw
namespace Lw
open PySem Ev Sn L2
variable {p:Nat} {S:Sto} {k:Nat} {Q:D->Sto->Prop} {K:Sky}
theorem Dn {xs:List Int} (h:xs ≠ []):ad jV (.tup (xs.map D.int)) S=some (.int (dU xs),S):=by
 cases xs with
 | nil=>exact absurd rfl h
 | cons x xs=>simp only [ad,ak,jV,iU]
noncomputable def f1 (n:Int):Int:=1+(n - 1) % 3
noncomputable def f2 (n:Int):Int:=if n > 2 then n else 2
theorem Mz (n:Int):1<=f1 n/\f1 n<=3:=by unfold f1;omega
theorem uB {r:List Int} {f:Int->Int} {c:XA} {ρ:Rho} {Q:List D->Sto->Prop} (hl:r.length<=4) (step:∀ x S',∃ ρ1,ao (.name 16) (.int x) ρ=some ρ1/\Ok (c ρ1 S') fun es S1=>es=[D.int (f x)]/\Sm S' S1) (q:∀ S',Sm S S'->Q ((r.map f).map D.int) S') :
  Ok (aX (nxL (r.map D.int)) (.name 16) c ρ LF 0 S) fun es S2=>es.length<=100000/\Q es S2:=by
 refine bn r D.int (fun x=>[.int (f x)]) (by omega) (fun _ _=>Nat.le_refl _) ie (fun i x S' hr sm=>step x S') fun S' sm=>?_
 rw [bC]
 have:=q S' sm
 rw [List.map_map] at this
 exact this
theorem wm {u6 u7 u8 u9 u10 u11 u12:Option D} {G:List (List Int)} {N:Nat} (h:Pot p S) (sk:SkOk K) (g7:G.length<=3) (lG:G.length=K.G.length) (hN:S[N]?=some (.lst (G.map aJ)))
  (gb:∀ (j:Nat) g,G[j]?=some g->GB K.M.length (K.r % 3) K.s g/\(g.getD 6 0=0\/(j:Int) ∈ K.F)/\g.getD 3 0<=g.getD 2 0+8)
  (q:∀ K' S',Dr p S S'->SkOk K'->K'.G.length<=3->(∀ g ∈ K'.G,g.getD 3 0<=g.getD 2 0+8)->Q (skE K') S') :
  rW (wSs (evC ag (k+4)) (fN ag) 56 (cN.drop 4)) [some (.ref p),some (meE K),some (ahE K.ah),some (.tup (K.G.map aJ)),some (.tup (K.F.map D.int)),some (.ref N),u6,u7,u8,u9,u10,u11,u12,none,none] S (out Q):=by
 have tail:=fun (M:List (List Int)) (hM:NM K.M.length M) (S1:Sto) (s1:Sm S S1)=>zW (k:=k) (p:=p) (S:=S1) (Q:=Q) (u5:=none) (u6:=u6) (u7:=u7) (u8:=u8) (u9:=u9) (u10:=u10) (u11:=u11) (u12:=u12) (Dr.sm h s1).pot sk hM g7 lG (s1 _ _ hN) gb fun K' S' d'=>q K' S' ((Dr.sm h s1).trans d')
 dsimp only [cN,List.drop] at tail ⊢
 have m1:=sk.me.m1
 have m4:=sk.me.m4
 have mr:=sk.me.mat.row
 k_is
 refine aa me2 ?_
 k_is
 refine qT (f:=f1) m4 ie (fun r S' hr sm=>⟨_,show ao (.name 15) (.tup (r.map D.int)) _=_ from rfl,?_⟩) fun S1 s1=>?_
 ·k_is
  refine uB (f:=f1) (by rw [mr r hr];exact m4) (fun x S''=>⟨_,rfl,?_⟩) fun S2 s2=>?_
  ·k_is
   exact ⟨by decide,rfl,Sm.refl _⟩
  ·refine aa (show b7 false ((r.map f1).map D.int) S2=some (.tup ((r.map f1).map D.int),S2) from rfl) ?_
   exact ⟨rfl,s2⟩
 ·refine aa (show b7 false ((K.M.map fun r=>r.map f1).map aJ) S1=some (.tup ((K.M.map fun r=>r.map f1).map aJ),S1) from rfl) ?_
  k_is
  have len1:(K.M.map fun r=>r.map f1).length=K.M.length:=List.length_map _
  have row1:∀ r ∈ K.M.map fun r=>r.map f1,r.length=K.M.length:=fun r hr=>by
   obtain ⟨r',hr',rfl⟩:=List.mem_map.mp hr
   rw [List.length_map];exact mr r' hr'
  have ent1:∀ r ∈ K.M.map fun r=>r.map f1,∀ x ∈ r,1<=x/\x<=3:=fun r hr x hx=>by
   obtain ⟨r',hr',rfl⟩:=List.mem_map.mp hr
   obtain ⟨y,_,rfl⟩:=List.mem_map.mp hx
   exact Mz y
  generalize (K.M.map fun r=>r.map f1)=M1 at *
  have ne1:∀ r ∈ M1,r ≠ []:=fun r hr z=>by have:=row1 r hr;rw [z] at this;simp at this;omega
  refine bn M1 aJ (fun r=>[.int (dU r)]) (by omega) (fun _ _=>Nat.le_refl _) ie (fun i r S' hr sm=>⟨_,show ao (.name 15) (.tup (r.map D.int)) _=_ from rfl,?_⟩) fun S2 s2=>?_
  ·k_is
   refine aa (Dn (ne1 r (List.mem_of_getElem? hr))) ?_
   exact ⟨rfl,Sm.refl _⟩
  ·rw [bC]
   have em:=qI (S:=S2) (xs:=M1.map dU) (fun z=>by rw [List.map_eq_nil_iff] at z;rw [z] at len1;simp at len1;omega)
   rw [List.map_map] at em
   refine aa em ?_
   k_is
   refine bq (fun hc=>?_) fun hc=>?_
   ·k_is
    refine qT (f:=f2) (by omega) ie (fun r S' hr sm=>⟨_,show ao (.name 15) (.tup (r.map D.int)) _=_ from rfl,?_⟩) fun S3 s3=>?_
    ·k_is
     refine uB (f:=f2) (by rw [row1 r hr];exact m4) (fun x S''=>⟨_,rfl,?_⟩) fun S4 s4=>?_
     ·k_is
      exact ⟨rfl,Sm.refl _⟩
     ·refine aa (show b7 false ((r.map f2).map D.int) S4=some (.tup ((r.map f2).map D.int),S4) from rfl) ?_
      exact ⟨rfl,s4⟩
    ·refine aa (show b7 false ((M1.map fun r=>r.map f2).map aJ) S3=some (.tup ((M1.map fun r=>r.map f2).map aJ),S3) from rfl) ?_
     k_is
     refine tail _ ⟨by rw [List.length_map];exact len1,fun r hr=>?_,.inr fun r hr x hx=>?_⟩ S3 ((s1.trans s2).trans s3)
     ·obtain ⟨r',hr',rfl⟩:=List.mem_map.mp hr
      rw [List.length_map];exact row1 r' hr'
     ·obtain ⟨r',hr',rfl⟩:=List.mem_map.mp hr
      obtain ⟨y,hy,rfl⟩:=List.mem_map.mp hx
      have:=ent1 r' hr' y hy
      unfold f2
      split <;> omega
   ·k_is
    refine tail M1 ⟨len1,row1,.inl fun r hr x hx=>?_⟩ S2 (s1.trans s2)
    have h1:=sM hx
    have h2:=sM (List.mem_map.mpr ⟨r,hr,rfl⟩:dU r ∈ M1.map dU)
    have h3:=of_decide_eq_false hc
    have:=ent1 r hr x hx
    omega
end Lw
namespace Lw
open PySem Ev Sn L2
variable {p:Nat} {S:Sto} {k:Nat} {Q:D->Sto->Prop} {K:Sky}
theorem wn (h:Pot p S) (sk:SkOk K) (g3:K.G.length<=3)
  (q:∀ K' S',Dr p S S'->SkOk K'->K'.G.length<=3->(∀ g ∈ K'.G,g.getD 3 0<=g.getD 2 0+8)->Q (skE K') S') :
  rW (wSs (evC ag (k+4)) (fN ag) 58 (cN.drop 2)) [some (.ref p),some (meE K),some (ahE K.ah),some (.tup (K.G.map aJ)),some (.tup (K.F.map D.int)),none,none,none,none,none,none,none,none,none,none] S (out Q):=by
 have tail:=@wm p
 dsimp only [cN,List.drop] at tail ⊢
 have lt:=h.lt
 have r0:=sk.me.r0
 have s0:=sk.me.s0
 have s60:=sk.me.s60
 k_is
 have d0:Dr p S (S++[Ob.lst []]):=Dr.sm h (Sm.app _ _)
 have a0:(S++[Ob.lst []])[List.length S]?=some (Ob.lst (([]:List (List Int)).map aJ)):=aD
 have nN:List.length S ≠ p:=by omega
 generalize S++[Ob.lst []]=S0 at *
 refine ut (by rw [List.length_map];omega) (fun i ρ S'=>Dr p S S'/\∃ (G:List (List Int)) (u6 u7 u8 u9 u10 u11 u12:Option D),ρ=[some (.ref p),some (meE K),some (ahE K.ah),some (.tup (K.G.map aJ)),some (.tup (K.F.map D.int)),some (.ref (List.length S)),u6,u7,u8,u9,u10,u11,u12,none,none]/\S'[List.length S]?=some (.lst (G.map aJ))/\G.length=i/\∀ (j:Nat) g,G[j]?=some g->GB K.M.length (K.r % 3) K.s g/\(g.getD 6 0=0\/(j:Int) ∈ K.F)/\g.getD 3 0<=g.getD 2 0+8) (fun i d ρ S1 hd ⟨d1,G,u6,u7,u8,u9,u10,u11,u12,er,hn,hl,gb⟩=>?_) (fun ρ S1 ⟨d1,G,u6,u7,u8,u9,u10,u11,u12,er,hn,hl,gb⟩=>?_) ⟨d0,[],none,none,none,none,none,none,none,rfl,a0,rfl,fun j g e=>by cases e⟩
 ·subst er
  obtain ⟨g,hg,rfl⟩:=f9 hd
  have hi:i < K.G.length:=(List.getElem?_eq_some_iff.mp hg).1
  obtain ⟨kd,jo,fi,la,du,we,ri,rfl,h1,h2,h3,h4,h5,h6,h7,h8,h9,h10,h11,h12⟩:=sk.gb g (List.mem_of_getElem? hg)
  have rg:=sk.rg i _ hg
  refine ⟨_,show ao (.tup [.name 6,.name 7,.name 8,.name 9,.name 10,.name 11,.name 12]) (.tup [.int kd,.int jo,.int fi,.int la,.int du,.int we,.int ri]) _=_ from zV (by simp),?_⟩
  k_is
  refine ⟨by decide,?_⟩
  k_is
  refine aa me1 ?_
  k_is
  refine ⟨rfl,aB d1.pot (by decide) (by decide) fun x S2 x1 x2 d2=>?_⟩
  k_is
  have hn2:=d2.kp _ _ nN hn
  refine ⟨cq hn2,?_⟩
  refine ⟨by decide,?_⟩
  refine aa me0 ?_
  k_is
  refine ⟨by decide,?_⟩
  rw [l3 hn2 (by rw [List.length_map];omega)]
  k_is
  have lt2:List.length S < S2.length:=(List.getElem?_eq_some_iff.mp hn2).1
  refine ⟨⟨(d1.kp.trans d2.kp).setNew (Nat.le_refl _),d2.pot.setNe nN⟩,G++[[kd,jo % 6,jo % 6+K.s+x,jo % 6+K.s+x+la % 9,du,we,if K.r % 3 < ri then K.r % 3 else ri]],_,_,_,_,_,_,_,rfl,by rw [cS lt2,List.map_append];rfl,by rw [List.length_append,List.length_singleton];omega,fun j g' hj=>?_⟩
  by_cases hjl:j < G.length
  ·rw [List.getElem?_append_left hjl] at hj
   exact gb j g' hj
  ·have hll:=(List.getElem?_eq_some_iff.mp hj).1
   rw [List.length_append,List.length_singleton] at hll
   obtain rfl:j=G.length:=by omega
   rw [List.getElem?_append_right (Nat.le_refl _),Nat.sub_self] at hj
   cases hj
   refine ⟨⟨_,_,_,_,_,_,_,rfl,h1,h2,by omega,by omega,by omega,by omega,h7,h8,h9,h10,?_,?_⟩,?_,?_⟩
   ·split <;> omega
   ·split <;> omega
   ·rcases rg with rg | rg
    ·left
     have rg':ri=0:=rg
     show (if K.r % 3 < ri then K.r % 3 else ri)=0
     rw [if_neg (by omega)];exact rg'
    ·right
     rw [hl];exact rg
   ·show jo % 6+K.s+x+la % 9<=jo % 6+K.s+x+8
    omega
 ·subst er
  rw [List.length_map] at hl
  k_is
  exact tail (k:=k) d1.pot sk (by omega) hl hn gb fun K' S' d'=>q K' S' (d1.trans d')
theorem Dp (h:Pot p S) (q:∀ K S',Dr p S S'->SkOk K->K.G.length<=3->(∀ g ∈ K.G,g.getD 3 0<=g.getD 2 0+8)->Q (skE K) S'):Ok (evC ag (k+5) lA [.ref p] S) Q:=by
 refine aE (d:=ia) (ρ:=[some (.ref p),none,none,none,none,none,none,none,none,none,none,none,none,none,none]) rfl rfl ?_
 have tail:=@wn p
 dsimp only [ia]
 dsimp only [cN,List.drop] at tail ⊢
 k_is
 refine ⟨rfl,ux (by decide) (by decide) h fun K S1 d1 sk g3=>?_⟩
 rw [show skE K = .tup [meE K,ahE K.ah,.tup (K.G.map aJ),.tup (K.F.map D.int)] from rfl]
 k_is
 cases hG:K.G with
 | cons g G=>
  rw [show (((g::G).map aJ).isEmpty)=false from rfl]
  k_is
  rw [<-hG]
  exact tail (k:=k) d1.pot sk (by omega) fun K' S' d'=>q K' S' (d1.trans d')
 | nil=>
  rw [show (([]:List (List Int)).map aJ).isEmpty=true from rfl]
  k_is
  refine aa me1 (aa me1 ?_)
  k_is
  have s0:=sk.me.s0
  have s60:=sk.me.s60
  have r0:=sk.me.r0
  have m1:=sk.me.m1
  have sk':SkOk ⟨K.r,K.s,K.M,K.H,K.ah,[[0,3,3+K.s,3+K.s,0,1,0]],K.F⟩:=by
   refine ⟨sk.me,by show 1<=7;decide,fun g hg=>?_,sk.nd,fun x hx=>?_,fun j g hg=>?_,sk.ah⟩
   ·obtain rfl:=List.mem_singleton.mp hg
    exact ⟨0,3,3+K.s,3+K.s,0,1,0,rfl,by decide,by show (0:Int) < K.M.length;omega,by decide,by show 3+K.s<=3+K.s;omega,by omega,by omega,by decide,by decide,by decide,by decide,by decide,r0⟩
   ·have:=sk.bd x hx
    rw [hG] at this
    simp at this
    omega
   ·have:=List.mem_of_getElem? hg
    obtain rfl:=List.mem_singleton.mp this
    exact .inl rfl
  exact tail (k:=k) (K:=⟨K.r,K.s,K.M,K.H,K.ah,[[0,3,3+K.s,3+K.s,0,1,0]],K.F⟩) d1.pot sk' (by show 1<=3;decide) fun K' S' d'=>q K' S' (d1.trans d')
end Lw
namespace Lw
open PySem Ev Sn L2
variable {p:Nat} {S:Sto} {k:Nat} {Q:D->Sto->Prop} {K:Sky}
theorem Ei {n:Nat} {ds:List D} {tg:Tg} {b:XS} {ρ:Rho} {Q:Fl->Rho->Sto->Prop} (hl:ds.length<=100000) (I:Nat->Rho->Sto->Prop) (hI:∀ i ρ S',I i ρ S'->S'[n]?=some (.lst ds))
  (step:∀ (i:Nat) d ρ S',ds[i]?=some d->I i ρ S'->∃ ρ1,ao tg d ρ=some ρ1/\OkS (b ρ1 S') fun fl ρ2 S2=>match fl with | .nx=>I (i+1) ρ2 S2 | .ct=>I (i+1) ρ2 S2 | .bk=>Q .nx ρ2 S2 | .rt d=>Q (.rt d) ρ2 S2)
  (q:∀ ρ S',I ds.length ρ S'->Q .nx ρ S') (h0:I 0 ρ S):OkS (dX (nxS n) tg b LF 0 ρ S) Q:=by
 refine iQ ds.length I (by unfold LF;omega) (fun i ρ S' hi iv=>?_) (fun ρ S' iv=>⟨?_,q ρ S' iv⟩) h0
 ·obtain ⟨ρ1,e2,z⟩:=step i ds[i] ρ S' (gEG hi) iv
  refine ⟨ds[i],ρ1,?_,e2,z⟩
  show (aj S' n).map (fun ds=>ds[i]?)=_
  rw [au (hI i ρ S' iv),Option.map_some,gEG hi]
 ·show (aj S' n).map (fun ds'=>ds'[ds.length]?)=_
  rw [au (hI _ ρ S' iv),Option.map_some,List.getElem?_eq_none (Nat.le_refl _)]
noncomputable abbrev Row:=List (Int × Int)
noncomputable def Dq (K:Sky) (g:Int):List Int:=(List.range (gi K.G g 3+1 - gi K.G g 2).toNat).map fun (j:Nat)=>gi K.G g 2+(j:Int)
noncomputable def IX (K:Sky) (g:Int) (L:Row):List Row:=(Dq K g).map fun m=>L++[(g,m)]
noncomputable def aU (K:Sky):List Int->List Row->List Row
 | [],Ls=>Ls
 | g::os,Ls=>aU K os (Ls.flatMap (IX K g))
noncomputable def Within (K:Sky) (z:Int × Int):Prop:=gi K.G z.1 2<=z.2/\z.2<=gi K.G z.1 3
theorem LO {g m:Int}:m ∈ Dq K g ↔ Within K (g,m):=by
 unfold Dq Within
 rw [List.mem_map]
 constructor
 ·rintro ⟨j,hj,rfl⟩
  have:=List.mem_range.mp hj
  dsimp only
  omega
 ·rintro ⟨h1,h2⟩
  dsimp only at h1 h2
  exact ⟨(m - gi K.G g 2).toNat,List.mem_range.mpr (by omega),by omega⟩
theorem qU:∀ {os:List Int} {Ls:List Row} {L:Row},L ∈ aU K os Ls ↔ ∃ L0 ∈ Ls,∃ T,L=L0++T/\T.map (·.1)=os/\∀ z ∈ T,Within K z
 | [],Ls,L=>by
  constructor
  ·exact fun h=>⟨L,h,[],by simp,rfl,fun z hz=>by cases hz⟩
  ·rintro ⟨L0,h0,T,e,et,_⟩
   rw [List.map_eq_nil_iff] at et
   subst et
   rw [List.append_nil] at e
   subst e
   exact h0
 | g::os,Ls,L=>by
  rw [aU,qU]
  constructor
  ·rintro ⟨L0,h0,T,e,et,hT⟩
   obtain ⟨L1,h1,h2⟩:=List.mem_flatMap.mp h0
   obtain ⟨m,hm,rfl⟩:=List.mem_map.mp h2
   refine ⟨L1,h1,(g,m)::T,by rw [e,List.append_assoc];rfl,by rw [List.map_cons,et],fun z hz=>?_⟩
   rcases List.mem_cons.mp hz with rfl | hz
   ·exact LO.mp hm
   ·exact hT z hz
  ·rintro ⟨L0,h0,T,e,et,hT⟩
   cases T with
   | nil=>cases et
   | cons z T=>
    rw [List.map_cons] at et
    injection et with e1 e2
    refine ⟨L0++[z],List.mem_flatMap.mpr ⟨L0,h0,List.mem_map.mpr ⟨z.2,LO.mpr ?_,?_⟩⟩,T,by rw [e,List.append_assoc];rfl,e2,fun y hy=>hT y (List.mem_cons_of_mem _ hy)⟩
    ·have:=hT z List.mem_cons_self
     rw [<-e1];exact this
    ·rw [<-e1]
theorem LP {os:List Int} {L:Row}:L ∈ aU K os [[]] ↔ L.map (·.1)=os/\∀ z ∈ L,Within K z:=by
 rw [qU]
 constructor
 ·rintro ⟨L0,h0,T,e,et,hT⟩
  rw [List.mem_singleton.mp h0,List.nil_append] at e
  subst e
  exact ⟨et,hT⟩
 ·rintro ⟨h1,h2⟩
  exact ⟨[],List.mem_singleton.mpr rfl,L,rfl,h1,h2⟩
noncomputable abbrev mj:=Nat × Row
noncomputable def cV (z:mj):D:=.ref z.1
noncomputable def Ats (S:Sto) (P:List mj):Prop:=∀ z ∈ P,S[z.1]?=some (.lst (z.2.map ac))
theorem IY {L:Row} {a:Nat} {g c:Int} {n:Nat} {ρ:Rho} {cc:XA} {Q:List D->Sto->Prop} (hn:n<=9) (ha:S[a]?=some (.lst (L.map ac))) (hL:L.length<=100)
  (step:∀ (j:Nat) S',∃ ρ1,ao (.name 11) (.int (c+(j:Int))) ρ=some ρ1/\∀ (Q':List D->Sto->Prop),Ok (bG .add (.ref a) (.ref (List.length S')) (S'++[Ob.lst [.tup [.int g,.int (c+(j:Int))]]])) (fun d S1=>Q' [d] S1)->Ok (cc ρ1 S') Q')
  (q:∀ (P:List mj) S',Sm S S'->Ats S' P->(∀ z ∈ P,S.length<=z.1)->P.map (·.2)=((List.range n).map fun (j:Nat)=>L++[(g,c+(j:Int))])->Q (P.map cV) S') :
  Ok (aX (nxR c n) (.name 11) cc ρ LF 0 S) fun es S2=>es.length<=100000/\Q es S2:=by
 refine oW (by omega) (fun i acc S'=>Sm S S'/\∃ P:List mj,acc=P.map cV/\Ats S' P/\(∀ z ∈ P,S.length<=z.1)/\P.map (·.2)=((List.range i).map fun (j:Nat)=>L++[(g,c+(j:Int))])) (fun i acc S1 hi ⟨s1,P,ea,at1,lo,e⟩=>?_) (fun es S1 ⟨s1,P,ea,at1,lo,e⟩=>?_) ⟨Sm.refl S,[],rfl,fun z hz=>(by cases hz),fun z hz=>(by cases hz),rfl⟩
 ·obtain ⟨ρ1,e1,st⟩:=step i S1
  refine ⟨ρ1,e1,st _ ?_⟩
  have s2:Sm S1 (S1++[Ob.lst [.tup [.int g,.int (c+(i:Int))]]]):=Sm.app _ _
  refine aa (o8 (s2 _ _ (s1 _ _ ha)) aD (by rw [List.length_map,List.length_singleton];omega)) ?_
  have s3:Sm (S1++[Ob.lst [.tup [.int g,.int (c+(i:Int))]]]) (S1++[Ob.lst [.tup [.int g,.int (c+(i:Int))]]]++[Ob.lst (L.map ac++[.tup [.int g,.int (c+(i:Int))]])]):=Sm.app _ _
  have ln:S.length<=S1.length:=by
   by_cases hz:S.length<=S1.length
   ·exact hz
   ·exfalso
    have hlt:S1.length < S.length:=by omega
    have:=s1 S1.length S[S1.length] (gEG hlt)
    rw [List.getElem?_eq_none (Nat.le_refl _)] at this
    cases this
  refine ⟨(s1.trans s2).trans s3,P++[(List.length (S1++[Ob.lst [.tup [.int g,.int (c+(i:Int))]]]),L++[(g,c+(i:Int))])],by rw [ea,List.map_append];rfl,fun z hz=>?_,fun z hz=>?_,by rw [List.map_append,e,List.range_succ,List.map_append];rfl⟩
  ·rcases List.mem_append.mp hz with hz | hz
   ·exact s3 _ _ (s2 _ _ (at1 z hz))
   ·rw [List.mem_singleton.mp hz]
    show _[List.length (S1++[Ob.lst [.tup [.int g,.int (c+(i:Int))]]])]?=_
    rw [aD,List.map_append];rfl
  ·rcases List.mem_append.mp hz with hz | hz
   ·exact lo z hz
   ·rw [List.mem_singleton.mp hz]
    show S.length<=List.length (S1++[Ob.lst [.tup [.int g,.int (c+(i:Int))]]])
    rw [List.length_append];omega
 ·subst ea
  have lP:=congrArg List.length e
  rw [List.length_map,List.length_map,List.length_range] at lP
  exact ⟨by rw [List.length_map];omega,q P S1 s1 at1 lo e⟩
theorem Ds {n m:Nat} {xs ys:List D} (h1:S[n]?=some (.lst xs)) (h2:S[m]?=some (.lst ys)) (hl:xs.length+ys.length<=100000):sg (.ref n) [.ref m] S=some (.non,S.set n (.lst (xs++ys))):=by
 simp only [sg,h2,chg,h1]
 rw [if_pos hl];rfl
end Lw
namespace Lw
open PySem Ev Sn L2
variable {p:Nat} {S:Sto} {k:Nat} {Q:D->Sto->Prop} {K:Sky}
theorem eqP:∀ (L R:Row),∃ b,eqL (eqD 57 S) (L.map ac) (R.map ac)=some b/\(L=R->b=true)
 | [],[]=>⟨true,rfl,fun _=>rfl⟩
 | [],q::R=>⟨false,rfl,fun z=>by cases z⟩
 | p::L,[]=>⟨false,rfl,fun z=>by cases z⟩
 | p::L,q::R=>by
  obtain ⟨b,e,h⟩:=eqP L R
  have e1:eqD 57 S (ac p) (ac q)=some ((p.1 == q.1) && ((p.2 == q.2) && true)):=rfl
  refine ⟨((p.1 == q.1) && ((p.2 == q.2) && true)) && b,by rw [List.map_cons,List.map_cons,eqL,e1,e],fun z=>?_⟩
  cases z
  rw [h rfl,beq_self_eq_true,beq_self_eq_true];rfl
theorem eqR {a n:Nat} {L R:Row} (h1:S[a]?=some (.lst (L.map ac))) (h2:S[n]?=some (.lst (R.map ac))):∃ b,eqD 58 S (.ref a) (.ref n)=some b/\(L=R->b=true):=by
 have e:eqD 58 S (.ref a) (.ref n)=(match aj S a,aj S n with
   | some xs,some ys=>if a=n then some true else if xs.length=ys.length then eqL (eqD 57 S) xs ys else some false
   | _,_=>none):=rfl
 rw [e,au h1,au h2]
 dsimp only
 by_cases ha:a=n
 ·exact ⟨true,if_pos ha,fun _=>rfl⟩
 ·rw [if_neg ha]
  by_cases hl:(L.map ac).length=(R.map ac).length
  ·rw [if_pos hl];exact eqP L R
  ·rw [if_neg hl];exact ⟨false,rfl,fun z=>absurd (by rw [z]) hl⟩
theorem sT {n N:Nat} {P:List mj} {R:Row} (hN:S[N]?=some (.lst (P.map cV))) (hn:S[n]?=some (.lst (R.map ac))) (hP:Ats S P) (hm:R ∈ P.map (·.2)):av .notin (.ref n) (.ref N) S=some (.bl false,S):=by
 show inS true (.ref n) (.ref N) S=_
 have it:ak (.ref N) S=some (false,P.map cV):=by simp only [ak,au hN,Option.map_some]
 unfold inS
 rw [it]
 dsimp only
 rw [if_neg (fun z=>by cases z.1)]
 have al:((P.map cV).all fun y=>(eqD 58 S y (.ref n)).isSome)=true:=by
  rw [List.all_eq_true]
  intro y hy
  obtain ⟨z,hz,rfl⟩:=List.mem_map.mp hy
  obtain ⟨b,e,_⟩:=eqR (hP z hz) hn
  show (eqD 58 S (.ref z.1) (.ref n)).isSome=true
  rw [e];rfl
 have an:((P.map cV).any fun y=>eqD 58 S y (.ref n) == some true)=true:=by
  rw [List.any_eq_true]
  obtain ⟨z,hz,rfl⟩:=List.mem_map.mp hm
  obtain ⟨b,e,h⟩:=eqR (hP z hz) hn
  refine ⟨cV z,List.mem_map.mpr ⟨z,hz,rfl⟩,?_⟩
  show (eqD 58 S (.ref z.1) (.ref n) == some true)=true
  rw [e,h rfl];rfl
 unfold inD
 rw [if_pos al,an];rfl
theorem Dt (x y:Str) (S:Sto):av .ne (.str x) (.str y) S=some (.bl (!(x == y)),S):=by
 simp only [av,neS]
 have:eqD 60 S (.str x) (.str y)=some (x == y):=rfl
 rw [this];rfl
noncomputable def kB (K:Sky) (L:Row):Bool:=@decide (jt K L) (Classical.propDecidable _)
theorem IZ {L:Row}:kB K L=true ↔ jt K L:=by
 unfold kB
 exact @decide_eq_true_iff _ (Classical.propDecidable _)
theorem LQ {L:Row} {b:Bool} (h:b=true ↔ jt K L):b=kB K L:=by
 rw [Bool.eq_iff_iff,h,IZ]
theorem sU {os:List Int} {A:Nat} {P:List mj} {u4 u5 u6 u7 u8:Option D} (sk:SkOk K) (ho:Ord K os) (hA:S[A]?=some (.lst (P.map cV))) (at0:Ats S P) (eP:P.map (·.2)=aU K os [[]]) (lP:P.length<=729) (q:∀ S',Sm S S'->Q (.bl true) S') :
  rW (wSs (evC ag (k+11)) (fN ag) 57 (b8.drop 3)) [some (.ref p),some (skE K),some (.tup (os.map D.int)),some (.ref A),u4,u5,u6,u7,u8,none,none] S (out Q):=by
 dsimp only [b8,List.drop]
 have V:=sk.vd
 have inR:∀ z ∈ P,z.2.map (·.1)=os/\∀ y ∈ z.2,Within K y:=fun z hz=>LP.mp (by rw [<-eP];exact List.mem_map.mpr ⟨z,hz,rfl⟩)
 k_is
 refine ⟨by rw [au hA];rfl,?_⟩
 refine bn P cV (fun z=>if kB K z.2=true then [cV z] else []) (by omega) (fun z _=>by split <;> simp) (dN hA) (fun i z S' hz sm=>⟨_,show ao (.name 11) (.ref z.1) _=_ from rfl,?_⟩) fun S1 s1=>?_
 ·have hzP:=List.mem_of_getElem? hz
  k_is
  refine ⟨rfl,ju (k:=k+8) V ho (sm _ _ (at0 z hzP)) (inR z hzP).1 fun b S2 s2 hb=>?_⟩
  rw [LQ hb]
  cases kB K z.2 with
  | true=>k_is;exact ⟨rfl,s2⟩
  | false=>k_is;exact ⟨rfl,s2⟩
 ·rw [bD]
  k_is
  have gm:∀ z,z ∈ P.filter (fun z=>kB K z.2)->z ∈ P/\jt K z.2:=fun z hz=>⟨(List.mem_filter.mp hz).1,IZ.mp (List.mem_filter.mp hz).2⟩
  have mg:∀ L,jt K L->L.map (·.1)=os->L ∈ (P.filter fun z=>kB K z.2).map (·.2):=fun L kL eL=>by
   have:L ∈ P.map (·.2):=by
    rw [eP]
    refine LP.mpr ⟨eL,fun z hz=>?_⟩
    obtain ⟨i,hi⟩:=List.getElem?_of_mem hz
    exact ⟨(kL i z hi).lo,(kL i z hi).hi⟩
   obtain ⟨z,hz,rfl⟩:=List.mem_map.mp this
   exact List.mem_map.mpr ⟨z,List.mem_filter.mpr ⟨hz,IZ.mpr kL⟩,rfl⟩
  have lg:(P.filter fun z=>kB K z.2).length<=729:=Nat.le_trans (List.length_filter_le _ _) lP
  generalize (P.filter fun z=>kB K z.2)=G at *
  have s2:Sm S1 (S1++[Ob.lst (G.map cV)]):=Sm.app _ _
  have a2:(S1++[Ob.lst (G.map cV)])[List.length S1]?=some (.lst (G.map cV)):=aD
  generalize S1++[Ob.lst (G.map cV)]=S2 at *
  generalize List.length S1=N at *
  refine ⟨rfl,ma (k:=k+2) V sk.sky ho fun d S3 s3 rs=>?_⟩
  k_is
  have a3:=s3 _ _ a2
  have lN:N < S3.length:=(List.getElem?_eq_some_iff.mp a3).1
  refine aa (GA (Sm.app _ _ _ _ a3) aD (by omega)) ?_
  have s4:Sm S3 (S3++[Ob.lst []]):=Sm.app _ _
  have sA:=((s1.trans s2).trans s3).trans s4
  have a4:=s4 _ _ a3
  k_is
  unfold Res at rs
  cases hG:G with
  | nil=>
   rw [show (([]:List mj).map cV).isEmpty=true from rfl]
   k_is
   cases hr:rn K os K.ah [] with
   | inl j=>
    rw [hr] at rs
    subst rs
    refine aa (show ixS (D.tup [.str "stuck", .int (j:Int)]) (.int 0) _=some (.str "stuck", _) from rfl) ?_
    k_is
    refine aa (pw _ _ _) ?_
    rw [show ((("stuck" : Str)) == "stuck")=true from rfl]
    k_is
    exact q _ sA
   | inr R=>
    obtain ⟨eR,kR⟩:=pk sk ho hr
    have:=mg R kR eR
    rw [hG] at this
    cases this
  | cons z0 G'=>
   have k0:=gm z0 (by rw [hG];exact List.mem_cons_self)
   obtain ⟨R,hr,_⟩:=mh sk ho z0.2 [] [] (by rw [List.nil_append];exact (inR z0 k0.1).1) (by rw [List.nil_append];exact k0.2) .nil
   rw [(inR z0 k0.1).1] at hr
   have hr:rn K os K.ah [] = .inr R:=hr
   rw [hr] at rs
   obtain ⟨n,rfl,hn,_⟩:=rs
   obtain ⟨eR,kR⟩:=pk sk ho hr
   have lR:R.length=os.length:=by rw [<-eR,List.length_map]
   rw [show ((z0::G').map cV).isEmpty=false from rfl]
   k_is
   have i1:∀ S,ixS (D.tup [.str "lands", .ref n]) (.int 1) S=some (.ref n,S):=fun _=>rfl
   refine aa (show ixS (D.tup [.str "lands", .ref n]) (.int 0) _=some (.str "lands", _) from rfl) ?_
   k_is
   refine aa (Dt _ _ _) ?_
   rw [show ((("lands" : Str)) == "lands")=true from rfl]
   k_is
   refine aa (i1 _) ?_
   have hn4:=s4 _ _ hn
   have atG:Ats (S3++[Ob.lst []]) G:=fun z hz=>sA _ _ (at0 z (gm z hz).1)
   refine aa (sT a4 hn4 atG (mg R kR eR)) ?_
   k_is
   generalize S3++[Ob.lst []]=S4 at *
   refine ⟨by rw [au a4];rfl,?_⟩
   refine Ei (by rw [List.length_map];omega) (fun i ρ S'=>Sm S4 S'/\∃ u6,ρ=[some (.ref p),some (skE K),some (.tup (os.map D.int)),some (.ref A),u4,u5,u6,u7,u8,some (.ref N),some (.tup [.str "lands", .ref n])]) (fun i ρ S' iv=>iv.1 _ _ a4) (fun i d ρ S5 hd ⟨s5,u6,er⟩=>?_) (fun ρ S5 ⟨s5,u6,er⟩=>?_) ⟨Sm.refl _,_,rfl⟩
   ·subst er
    obtain ⟨z,hz,rfl⟩:=f9 hd
    have hzG:=List.mem_of_getElem? hz
    obtain ⟨zP,kz⟩:=gm z hzG
    have low:=qS sk ho hr (inR z zP).1 kz
    have lz:z.2.length=os.length:=by rw [<-(inR z zP).1,List.length_map]
    have az:=s5 _ _ (atG z hzG)
    have an:=s5 _ _ hn4
    refine ⟨_,show ao (.name 6) (.ref z.1) _=_ from rfl,?_⟩
    k_is
    refine aa (cE az) ?_
    k_is
    have g7:=sk.g7
    have ln:=ho.ln
    refine ⟨ig (by rw [List.length_map];omega) (by rw [List.length_map];omega),?_⟩
    rw [Int.toNat_natCast,List.length_map]
    refine bn (List.range z.2.length) (fun (j:Nat)=>D.int (0+(j:Int))) (fun _=>[]) (by rw [List.length_range];omega) (fun _ _=>Nat.zero_le _) zL (fun i' j S' hj sm=>⟨_,rfl,?_⟩) fun S6 s6=>?_
    ·have hj':j < z.2.length:=List.mem_range.mp (List.mem_of_getElem? hj)
     have hjR:j < R.length:=by omega
     have e1:(z.2.map ac)[(0+(j:Int)).toNat]?=some (ac z.2[j]):=by rw [show (0+(j:Int)).toNat=j by omega,List.getElem?_map,gEG hj'];rfl
     have e2:(R.map ac)[(0+(j:Int)).toNat]?=some (ac R[j]):=by rw [show (0+(j:Int)).toNat=j by omega,List.getElem?_map,gEG hjR];rfl
     k_is
     refine aa (ga (sm _ _ az) (by omega) e1) (aa (show ixS (ac z.2[j]) (.int 1) S'=some (.int z.2[j].2,S') from rfl) ?_)
     refine aa (i1 S') (aa (ga (sm _ _ an) (by omega) e2) (aa (show ixS (ac R[j]) (.int 1) S'=some (.int R[j].2,S') from rfl) ?_))
     k_is
     have:=low.get j _ _ (gEG hjR) (gEG hj')
     rw [decide_eq_false (show ¬ z.2[j].2 < R[j].2 by omega)]
     k_is
     exact ⟨rfl,Sm.refl _⟩
    ·rw [show ((List.range z.2.length).flatMap fun _=>([]:List D))=[] by simp]
     k_is
     refine aa BR ?_
     k_is
     exact ⟨((s5.trans s6).trans (Sm.app _ _)).trans (Sm.app _ _),_,rfl⟩
   ·subst er
    k_is
    exact q S5 (sA.trans s5)
end Lw
namespace Lw
open PySem Ev Sn L2
variable {p:Nat} {S:Sto} {k:Nat} {Q:D->Sto->Prop} {K:Sky}
theorem LR {i:Int} (h0:0<=i) (h1:i < 100000):lim i=true:=by simp only [lim,bAE,decide_eq_true_eq];omega
theorem zX (h:Pot p S) (sk:SkOk K) (g3:K.G.length<=3) (n8:∀ g ∈ K.G,g.getD 3 0<=g.getD 2 0+8) (q:∀ S',Dr p S S'->Q (.bl true) S'):Ok (evC ag (k+12) eu [.ref p,skE K] S) Q:=by
 refine aE (d:=cb) (ρ:=[some (.ref p),some (skE K),none,none,none,none,none,none,none,none,none]) rfl rfl ?_
 have tail:=@sU p
 dsimp only [cb]
 dsimp only [b8,List.drop] at tail ⊢
 have V:=sk.vd
 k_is
 refine ⟨rfl,nA (k:=k+8) h sk fun os S1 d1 ho=>?_⟩
 k_is
 have ln:=ho.ln
 have s2:Sm S1 (S1++[Ob.lst []]++[Ob.lst [D.ref (List.length S1)]]):=(Sm.app _ _).trans (Sm.app _ _)
 have a2:(S1++[Ob.lst []]++[Ob.lst [D.ref (List.length S1)]])[List.length (S1++[Ob.lst []])]?=some (.lst ([((List.length S1,[]):mj)].map cV)):=aD
 have t2:Ats (S1++[Ob.lst []]++[Ob.lst [D.ref (List.length S1)]]) [(List.length S1,[])]:=fun z hz=>by
  obtain rfl:=List.mem_singleton.mp hz
  exact Sm.app _ _ _ _ aD
 generalize List.length (S1++[Ob.lst []])=A0 at *
 generalize S1++[Ob.lst []]++[Ob.lst [D.ref (List.length S1)]]=S2 at *
 refine ut (by rw [List.length_map];omega) (fun i ρ S'=>Sm S1 S'/\∃ (A:Nat) (P:List mj) (u4 u5 u6 u7 u8:Option D),ρ=[some (.ref p),some (skE K),some (.tup (os.map D.int)),some (.ref A),u4,u5,u6,u7,u8,none,none]/\S'[A]?=some (.lst (P.map cV))/\Ats S' P/\aU K (os.drop i) (P.map (·.2))=aU K os [[]]/\P.length<=9 ^ i/\∀ L ∈ P.map (·.2),L.length<=i) (fun i d ρ S3 hd ⟨s3,A,P,u4,u5,u6,u7,u8,er,hA,tA,eR,lP,lL⟩=>?_) (fun ρ S3 ⟨s3,A,P,u4,u5,u6,u7,u8,er,hA,tA,eR,lP,lL⟩=>?_) ⟨s2,A0,[(List.length S1,[])],none,none,none,none,none,rfl,a2,t2,rfl,Nat.le_refl _,fun L hL=>by obtain rfl:=List.mem_singleton.mp hL;exact Nat.le_refl _⟩
 ·subst er
  obtain ⟨g,hg,rfl⟩:=f9 hd
  obtain ⟨g0,g1⟩:=ho.bd g (List.mem_of_getElem? hg)
  have hi:i < os.length:=(List.getElem?_eq_some_iff.mp hg).1
  have hgi:g.toNat < K.G.length:=by omega
  obtain ⟨kd,jo,c,d,du,we,ri,er,b1,b2,b3,b4,b5,b6,_⟩:=sk.gb K.G[g.toNat] (List.getElem_mem hgi)
  have s0:=sk.me.s0
  have eg:K.G[g.toNat]?=some [kd,jo,c,d,du,we,ri]:=by rw [gEG hgi,er]
  have e2:gi K.G g 2=c:=by unfold gi;rw [eg];rfl
  have e3:gi K.G g 3=d:=by unfold gi;rw [eg];rfl
  have d8:d<=c+8:=by have:=n8 _ (List.mem_of_getElem? eg);exact this
  have lP9:P.length<=81:=by
   have:9 ^ i<=9 ^ 2:=Nat.pow_le_pow_right (by decide) (by omega)
   omega
  rw [kf hg,aU] at eR
  refine ⟨_,rfl,?_⟩
  k_is
  have s4:Sm S3 (S3++[Ob.lst []]):=Sm.app _ _
  have a4:(S3++[Ob.lst []])[List.length S3]?=some (.lst (([]:List mj).map cV)):=aD
  generalize S3++[Ob.lst []]=S4 at *
  refine ⟨by rw [au (s4 _ _ hA)];rfl,?_⟩
  refine Ei (by rw [List.length_map];omega) (fun t ρ S'=>Sm S3 S'/\∃ (PW:List mj) (u6 u7 u8:Option D),ρ=[some (.ref p),some (skE K),some (.tup (os.map D.int)),some (.ref A),some (.int g),some (.ref (List.length S3)),u6,u7,u8,none,none]/\S'[List.length S3]?=some (.lst (PW.map cV))/\Ats S' PW/\(∀ z ∈ PW,z.1 ≠ List.length S3)/\PW.map (·.2)=((P.take t).map (·.2)).flatMap (IX K g)/\PW.length<=9 * t) (fun t ρ S' iv=>iv.1 _ _ hA) (fun t d' ρ S5 hd' ⟨s5,PW,u6,u7,u8,er',hW,tW,nW,eW,lW⟩=>?_) (fun ρ S5 ⟨s5,PW,u6,u7,u8,er',hW,tW,nW,eW,lW⟩=>?_) ⟨s4,[],_,_,_,rfl,a4,fun z hz=>(by cases hz),fun z hz=>(by cases hz),rfl,Nat.le_refl _⟩
  ·subst er'
   obtain ⟨z,hz,rfl⟩:=f9 hd'
   have hzP:=List.mem_of_getElem? hz
   have ht:t < P.length:=(List.getElem?_eq_some_iff.mp hz).1
   have az:=s5 _ _ (tA z hzP)
   have lz:=lL z.2 (List.mem_map.mpr ⟨z,hzP,rfl⟩)
   have lt5:List.length S3 < S5.length:=(List.getElem?_eq_some_iff.mp hW).1
   refine ⟨_,show ao (.name 6) (.ref z.1) _=_ from rfl,?_⟩
   k_is
   refine aa sk2 (aa (gQ g0 eg) ?_)
   rw [show aJ [kd,jo,c,d,du,we,ri] = .tup [.int kd,.int jo,.int c,.int d,.int du,.int we,.int ri] from rfl]
   k_is
   rw [show gC [D.int kd,.int jo,.int c,.int d,.int du,.int we,.int ri] (some 2) (some 4)=[.int c,.int d] from rfl]
   k_is
   refine ⟨cq hW,?_⟩
   refine ⟨⟨LR (by omega) (by omega),LR (by omega) (by omega)⟩,?_⟩
   refine IY (L:=z.2) (a:=z.1) (g:=g) (c:=c) (by omega) az (by omega) (fun j S'=>⟨_,rfl,fun Q' hq=>?_⟩) fun P' S6 s6 t6 lo6 e6=>?_
   ·k_is
    exact hq
   ·have l6:P'.length<=9:=by
     have:=congrArg List.length e6
     rw [List.length_map,List.length_map,List.length_range] at this
     omega
    have s7:Sm S6 (S6++[Ob.lst (P'.map cV)]):=Sm.app _ _
    have hW7:=s7 _ _ (s6 _ _ hW)
    refine aa (Ds hW7 aD (by rw [List.length_map,List.length_map];omega)) ?_
    have s57:=s6.trans s7
    generalize S6++[Ob.lst (P'.map cV)]=S7 at *
    have lt7:List.length S3 < S7.length:=(List.getElem?_eq_some_iff.mp hW7).1
    k_is
    refine ⟨Sm.setNew (s5.trans s57) (Nat.le_refl _),PW++P',_,_,_,rfl,by rw [cS lt7,List.map_append],fun y hy=>?_,fun y hy=>?_,?_,by rw [List.length_append];omega⟩
    ·rcases List.mem_append.mp hy with hy | hy
     ·rw [List.getElem?_set_ne (Ne.symm (nW y hy))]
      exact s57 _ _ (tW y hy)
     ·have:=lo6 y hy
      rw [List.getElem?_set_ne (by omega)]
      exact s7 _ _ (t6 y hy)
    ·rcases List.mem_append.mp hy with hy | hy
     ·exact nW y hy
     ·have:=lo6 y hy;omega
    ·have ez:P.take (t+1)=P.take t++[z]:=by
      obtain ⟨hi,e⟩:=List.getElem?_eq_some_iff.mp hz
      rw [List.take_succ_eq_append_getElem hi,e]
     rw [List.map_append,eW,e6,ez,List.map_append,List.flatMap_append,List.map_cons,List.map_nil,List.flatMap_cons,List.flatMap_nil,List.append_nil]
     congr 1
     unfold IX Dq
     rw [e2,e3,List.map_map];rfl
  ·subst er'
   rw [List.length_map,List.take_length] at eW
   rw [List.length_map] at lW
   k_is
   refine ⟨s3.trans s5,_,PW,_,_,_,_,_,rfl,hW,tW,by rw [eW];exact eR,by rw [Nat.pow_succ];omega,fun L hL=>?_⟩
   rw [eW] at hL
   obtain ⟨L0,h0,h1⟩:=List.mem_flatMap.mp hL
   obtain ⟨m,_,rfl⟩:=List.mem_map.mp h1
   have:=lL L0 h0
   rw [List.length_append,List.length_singleton];omega
 ·subst er
  rw [List.length_map] at lP eR
  rw [List.drop_length,aU] at eR
  k_is
  refine tail (k:=k) sk ho hA tA eR ?_ fun S' s'=>q S' ((d1.thenSm s3).thenSm s')
  have:9 ^ os.length<=9 ^ 3:=Nat.pow_le_pow_right (by decide) (by omega)
  omega
end Lw
namespace Lw
open PySem Ev Sn L2
theorem main (ns:List Int) (hn:ns.length<=63):∃ S',evC ag 40 ub [.ref 0] [.frz (ns.map D.int)]=some (.bl true,S'):=by
 have key:Ok (evC ag (39+1) ub [.ref 0] [.frz (ns.map D.int)]) fun d _=>d = .bl true:=by
  refine aE (d:=uc) (ρ:=[some (.ref 0),none,none]) rfl rfl ?_
  dsimp only [uc,D4]
  k_is
  have lq:ad bx (.ref 0) [Ob.frz (ns.map D.int)]=some (.int ns.length,[Ob.frz (ns.map D.int)]):=by simp only [ad,ak,aj,List.getElem?_cons_zero,Option.map_some,bx,List.length_map]
  refine aa lq ?_
  k_is
  obtain ⟨c,hc,c8⟩:∃ c:Nat,(if (if (6:Int) < ns.length then (6:Int) else ns.length) > 1 then (if (6:Int) < ns.length then (6:Int) else ns.length) else 1)=(c:Int)/\c<=6:=by
   refine ⟨(if (if (6:Int) < ns.length then (6:Int) else ns.length) > 1 then (if (6:Int) < ns.length then (6:Int) else ns.length) else 1).toNat,?_,?_⟩
   ·split <;> split <;> omega
   ·split <;> split <;> omega
  rw [hc]
  refine ⟨ig (by omega) (by omega),?_⟩
  rw [Int.toNat_natCast]
  refine lZ (by omega) (fun i ρ S'=>S'[0]?=some (Ob.frz (ns.map D.int))/\∃ a b,ρ=[some (.ref 0),a,b]) (fun i ρ S1 hi ⟨h0,a,b,er⟩=>?_) (fun ρ S1 ⟨h0,a,b,er⟩=>?_) ⟨rfl,none,none,rfl⟩
  ·subst er
   refine ⟨_,rfl,?_⟩
   k_is
   rw [Int.zero_add]
   refine ⟨rfl,C2 (k:=38) h0 fun x=>?_⟩
   refine ⟨rfl,IL (k:=38) fun n=>?_⟩
   k_is
   have pt:Pot (List.length S1) (S1++[Ob.lst [D.int n]]):=⟨n,aD⟩
   have n0:0 ≠ List.length S1:=fun z=>by rw [List.length_eq_zero_iff.mp z.symm] at h0;simp at h0
   have h1:(S1++[Ob.lst [D.int n]])[0]?=some (Ob.frz (ns.map D.int)):=Sm.app _ _ _ _ h0
   generalize S1++[Ob.lst [D.int n]]=S2 at *
   generalize List.length S1=p at *
   refine ⟨rfl,Dp (k:=34) pt fun K S3 d3 sk g3 n8=>?_⟩
   refine ⟨rfl,zX (k:=27) d3.pot sk g3 n8 fun S4 d4=>?_⟩
   k_is
   refine ⟨rfl,ux (k:=35) (by decide) (by decide) d4.pot fun K' S5 d5 sk' _=>?_⟩
   refine ⟨rfl,IW (k:=27) d5.pot sk' fun S6 d6=>?_⟩
   k_is
   exact ⟨(((d3.trans d4).trans d5).trans d6).kp _ _ n0 h1,_,_,rfl⟩
  ·subst er
   k_is
 obtain ⟨d,S',e,rfl⟩:=key
 exact ⟨S',e⟩
end Lw
theorem PySem.Challenge.cw_downrings_k33_whole_soonest_are_least_holds : PySem.Challenge.rw_downrings_k33_whole_soonest_are_least.Holds :=
 Lw.head Lw.main
